import Derived.Test.YtamcnmnaadpfoaaFUai
set_option maxHeartbeats 16000000
namespace Go.Proofs.Ytamcnmnaadpfoaa.Fo
open Go.ChangeShapes Go.WideShapes Go.ChangeAt Go.RowKit
set_option linter.unusedVariables false
set_option maxRecDepth 100000
theorem RI.lt {b:Nat} {p:Option Addr} {c:Nat} {M:List UInt8} {k:Nat} {lost:Bool} {W:World} (h:RI b p c M k lost W):b < W.heap.size:=(Array.getElem?_eq_some_iff.1 h.blk).1
theorem RI.kg {b:Nat} {p:Option Addr} {c:Nat} {M:List UInt8} {k k':Nat} {lost lost':Bool} {W w':World} (h:RI b p c M k lost W) (z:Kg b W w') (hb:w'.heap[b]? = some (.cells #[.slice p M.length c,.int .i64 ((M.length:Int) - (k':Int)),.bool lost'] 77 (0,0))) (hk:k'≤M.length):RI b p c M k' lost' w' :=
 ⟨hb,hk,h.sz,h.cap,fun hm=>by
  obtain ⟨a,h1,h2,h3⟩:=h.row hm
  refine ⟨a,h1,h2,fun i x hx=>?_⟩
  have hr:=h3 i x hx
  have hl:a.block < W.heap.size:=by have:=lt_of_cell' hr;rw [add_block] at this;exact this
  exact (World.cell?_of_block (by rw [add_block];exact z.block _ hl h2)).trans hr⟩
theorem RI.kb {b:Nat} {p:Option Addr} {c:Nat} {M:List UInt8} {k:Nat} {lost:Bool} {W w':World} (h:RI b p c M k lost W) (z:Kb 0 W w'):RI b p c M k lost w':=h.kg (Kg.of_kb z) ((z.block _ (Nat.zero_le _) h.lt).trans h.blk) h.le
theorem nlost {a b:Bool} (h:a=true→b=true) (e:b=false):a=false:=by cases a <;> simp_all
structure Rv9 (g:Gv):Prop where
 m0 : -9223372036854775808≤g.m
 m1:g.m≤9223372036854775807
 x:g.x.size≤1000000
 k0 : 0≤g.k
 k1:g.k < 256
 r:Rn g.r
def RV9 (b:Nat) (p:Option Addr) (c:Nat) (M:List UInt8) (k:Nat) (lost:Bool) (W:World) (e:Ending) (w':World):Prop:=∃ (g:Gv) (k':Nat) (l':Bool),e = .returned (.agg #[.int .i64 g.k,.int .i64 g.m,.string g.x,.int .i64 g.r])∧RI b p c M k' l' w'∧k≤k'∧Kg b W w'∧Rv9 g∧(l'=false→k < k')∧(lost=true→l'=true)∧∀ (y:Gv) rest,lost=false→Wv y→M.drop k=v8 y ++ rest→g=y∧k'=k+(v8 y).length∧l'=false
theorem im_rval {b : Nat} {p : Option Addr} {c : Nat} {M : List UInt8} {k : Nat} {lost : Bool} {W : World} (h : RI b p c M k lost W) :
    Calls Try.prog 80 #[.pointer (some ⟨b,0,none⟩)] W (RV9 b p c M k lost W):=by
  obtain ⟨w1,hw1⟩:∃ w1,w1=W.alloc (.cells #[.int .i64 0,.int .i64 0,.string ⟨#[]⟩,.int .i64 0] 41):=⟨_,rfl⟩
  have k1:Kb 0 W w1:=by rw [hw1];exact kb_alloc _ _ _
  have z1:w1.heap.size=W.heap.size+1:=by rw [hw1,World.size_alloc]
  have b1:w1.heap[W.heap.size]? = some (.cells #[.int .i64 0,.int .i64 0,.string ⟨#[]⟩,.int .i64 0] 41 (0,0)):=by rw [hw1];exact alloc_new _ _ _
  have hbl:b < W.heap.size:=h.lt
  have HB:=im_next (h.kb k1)
  have HW1:Hid (w1=W.alloc (.cells #[.int .i64 0,.int .i64 0,.string ⟨#[]⟩,.int .i64 0] 41)):=hw1
  have HH:Hid (Kb 0 W w1∧w1.heap.size=W.heap.size+1∧w1.heap[W.heap.size]? = some (.cells #[.int .i64 0,.int .i64 0,.string ⟨#[]⟩,.int .i64 0] 41 (0,0))∧b < W.heap.size∧RI b p c M k lost W):=(⟨k1,z1,b1,hbl,h⟩:_∧_)
  clear h hw1 k1 z1 b1 hbl
  go_enter Try.func80,Try.ntmps80
  go_upto_region 1 with fail
  rw [← (show w1 = _ from HW1)]
  clear HW1
  go_wp2_with fail
  refine HB.mono ?_
  rintro e w2 ⟨v1,k1,l1,rfl,y1,y2,y3,x,rfl,y4,y5,y6,y7,y8⟩
  clear HB
  obtain ⟨kb1,z1,b1,hbl,h0⟩:=(show Kb 0 W w1∧w1.heap.size=W.heap.size+1∧w1.heap[W.heap.size]? = some (.cells #[.int .i64 0,.int .i64 0,.string ⟨#[]⟩,.int .i64 0] 41 (0,0))∧b < W.heap.size∧RI b p c M k lost W from HH)
  have z2:w2.heap.size=W.heap.size+1:=by rw [y3.size,z1]
  have b2:w2.heap[W.heap.size]? = some (.cells #[.int .i64 0,.int .i64 0,.string ⟨#[]⟩,.int .i64 0] 41 (0,0)):=(y3.block _ (by omega)).trans b1
  obtain ⟨w3,hw3⟩:∃ w3,w3=w2.alloc (.cells #[.int .i64 (x:Int),.int .i64 0,.string ⟨#[]⟩,.int .i64 0] 41):=⟨_,rfl⟩
  have kb3:Kb 0 w2 w3:=by rw [hw3];exact kb_alloc _ _ _
  have bS:w3.heap[W.heap.size]? = some (.cells #[.int .i64 0,.int .i64 0,.string ⟨#[]⟩,.int .i64 0] 41 (0,0)):=(kb3.block _ (Nat.zero_le _) (by omega)).trans b2
  have bV:w3.heap[W.heap.size+1]? = some (.cells #[.int .i64 (x:Int),.int .i64 0,.string ⟨#[]⟩,.int .i64 0] 41 (0,0)):=by rw [hw3,← z2];exact alloc_new _ _ _
  have rd3:RI b p c M k1 l1 w3:=y1.kb kb3
  have kg3:Kg b W w3:=((Kg.of_kb kb1).trans y3.kg).trans (Kg.of_kb kb3)
  have z3:w3.heap.size=W.heap.size+2:=by rw [hw3,World.size_alloc,z2]
  have HW3:Hid (w3=w2.alloc (.cells #[.int .i64 (x:Int),.int .i64 0,.string ⟨#[]⟩,.int .i64 0] 41)∧w2.heap.size=W.heap.size+1):=(⟨hw3,z2⟩:_∧_)
  have hxk:∀ (y:Gv) rest,lost=false→Wv y→M.drop k=v8 y ++ rest→(x:Int)=y.k∧k1=k+1∧l1=false:=fun y rest hl hy hm=>by
    obtain ⟨t,et,hk⟩:=v8_head y hy
    rw [et] at hm
    obtain ⟨q1,q2⟩:=drop_cons hm
    obtain ⟨r1,r2,r3⟩:=y8 _ hl q1
    refine ⟨?_,r2,r3⟩
    rw [r1,tn (by omega)]
    omega
  have c0:w3.cell? ⟨W.heap.size+1,0,none⟩=some (.int .i64 (x:Int)):=cell_of bV rfl
  have hxI:(x:Int) < 256:=by omega
  have HST:Hid (RI b p c M k1 l1 w3∧Kg b W w3∧w3.heap[W.heap.size]? = some (.cells #[.int .i64 0,.int .i64 0,.string ⟨#[]⟩,.int .i64 0] 41 (0,0))∧w3.heap[W.heap.size+1]? = some (.cells #[.int .i64 (x:Int),.int .i64 0,.string ⟨#[]⟩,.int .i64 0] 41 (0,0))∧w3.heap.size=W.heap.size+2∧b < W.heap.size∧RI b p c M k lost W∧k≤k1∧(l1=false→k < k1)∧(lost=true→l1=true)∧∀ (y:Gv) rest,lost=false→Wv y→M.drop k=v8 y ++ rest→(x:Int)=y.k∧k1=k+1∧l1=false):=(⟨rd3,kg3,bS,bV,z3,hbl,h0,y2,fun e=>by have:=y5 e;omega,y7,hxk⟩:_∧_)
  clear y1 y2 y3 y4 y5 y6 y7 y8 kb1 z1 b1 hbl h0 z2 b2 hw3 kb3 bS bV rd3 kg3 z3 hxk HH
  go_upto_region 2 with fail
  rw [(show _∧w2.heap.size = _ from HW3).2]
  rw [← (show w3 = _∧_ from HW3).1]
  clear HW3
  by_cases h4:x=4
  case pos =>
    obtain ⟨rd3,kg3,bS3,bV3,z3,hbl,h0,y2,y5,y7,hxk⟩:=(show RI b p c M k1 l1 w3∧Kg b W w3∧w3.heap[W.heap.size]? = some (.cells #[.int .i64 0,.int .i64 0,.string ⟨#[]⟩,.int .i64 0] 41 (0,0))∧w3.heap[W.heap.size+1]? = some (.cells #[.int .i64 (x:Int),.int .i64 0,.string ⟨#[]⟩,.int .i64 0] 41 (0,0))∧w3.heap.size=W.heap.size+2∧b < W.heap.size∧RI b p c M k lost W∧k≤k1∧(l1=false→k < k1)∧(lost=true→l1=true)∧∀ (y:Gv) rest,lost=false→Wv y→M.drop k=v8 y ++ rest→(x:Int)=y.k∧k1=k+1∧l1=false from HST)
    obtain rfl:x=4:=by omega
    have h1:((4:Int) == 1)=false:=rfl
    have h2:((4:Int) == 2)=false:=rfl
    have h3:((4:Int) == 3)=false:=rfl
    have h4:((4:Int) == 4)=true:=rfl
    have HSM:=im_rcount rd3
    clear rd3 kg3 bS3 bV3 z3 hbl h0 y2 y5 y7 hxk
    go_wp2_with fail
    refine HSM.mono ?_
    rintro e w4 ⟨v4,kz,bz,rfl,rz4,u2,u3,r,rfl,u4,u5,u5b,u6⟩
    clear HSM
    obtain ⟨rd3,kg3,bS3,bV3,z3,hbl,h0,y2,y5,y7,hxk⟩:=(show RI b p c M k1 l1 w3∧Kg b W w3∧w3.heap[W.heap.size]? = some (.cells #[.int .i64 0,.int .i64 0,.string ⟨#[]⟩,.int .i64 0] 41 (0,0))∧w3.heap[W.heap.size+1]? = some (.cells #[.int .i64 ((4:Nat):Int),.int .i64 0,.string ⟨#[]⟩,.int .i64 0] 41 (0,0))∧w3.heap.size=W.heap.size+2∧b < W.heap.size∧RI b p c M k lost W∧k≤k1∧(l1=false→k < k1)∧(lost=true→l1=true)∧∀ (y:Gv) rest,lost=false→Wv y→M.drop k=v8 y ++ rest→((4:Nat):Int)=y.k∧k1=k+1∧l1=false from HST)
    have bS4:w4.heap[W.heap.size]? = some (.cells #[.int .i64 0,.int .i64 0,.string ⟨#[]⟩,.int .i64 0] 41 (0,0)):=(u3.block _ (by omega)).trans bS3
    have bV4:w4.heap[W.heap.size+1]? = some (.cells #[.int .i64 ((4:Nat):Int),.int .i64 0,.string ⟨#[]⟩,.int .i64 0] 41 (0,0)):=(u3.block _ (by omega)).trans bV3
    have s3:w4.cell? ⟨W.heap.size+1,3,none⟩=some (.int .i64 0):=cell_of bV4 rfl
    have sz:∀ j,w4.frozen? ⟨W.heap.size+1,j,none⟩=false:=fun j=>frozen_of bV4
    obtain ⟨w5,hw5⟩:∃ w5,w5=w4.setCell ⟨W.heap.size+1,3,none⟩ (.int .i64 r):=⟨_,rfl⟩
    have bV:w5.heap[W.heap.size+1]? = some (.cells #[.int .i64 4,.int .i64 0,.string ⟨#[]⟩,.int .i64 r] 41 (0,0)):=by rw [hw5,set_known _ bV4];rfl
    have hf5:∀ q,q ≠ W.heap.size+1→w5.heap[q]? = w4.heap[q]?:=fun q hq=>by rw [hw5];exact Below.heap_setCell _ _ _ _ hq
    have bS:w5.heap[W.heap.size]? = some (.cells #[.int .i64 0,.int .i64 0,.string ⟨#[]⟩,.int .i64 0] 41 (0,0)):=(hf5 _ (by omega)).trans bS4
    have rzb:=(hf5 b (by omega)).trans rz4.blk
    have rzl:=rz4.le
    have kz1:Kg b W w5:=by
      have kk:=kg3.trans u3.kg
      exact ⟨by rw [hw5];exact kk.os,by rw [hw5];exact kk.output,by rw [hw5,World.size_setCell];exact kk.size,fun q h1 h2=>(hf5 q (by omega)).trans (kk.block q h1 h2)⟩
    have hkz:k≤kz:=by omega
    obtain ⟨WF,hWF⟩:∃ WF,WF=s4 w5 W.heap.size (4:Int) (0:Int) ⟨#[]⟩ r:=⟨_,rfl⟩
    have q0:w5.cell? ⟨W.heap.size,0,none⟩=some (.int .i64 0):=cell_of bS rfl
    have q1:w5.cell? ⟨W.heap.size,1,none⟩=some (.int .i64 0):=cell_of bS rfl
    have q2:w5.cell? ⟨W.heap.size,2,none⟩=some (.string ⟨#[]⟩):=cell_of bS rfl
    have q3:w5.cell? ⟨W.heap.size,3,none⟩=some (.int .i64 0):=cell_of bS rfl
    have qz:∀ j,w5.frozen? ⟨W.heap.size,j,none⟩=false:=fun j=>frozen_of bS
    have d0:w5.cell? ⟨W.heap.size+1,0,none⟩=some (.int .i64 (4:Int)):=cell_of bV rfl
    have d1:w5.cell? ⟨W.heap.size+1,1,none⟩=some (.int .i64 (0:Int)):=cell_of bV rfl
    have d2:w5.cell? ⟨W.heap.size+1,2,none⟩=some (.string ⟨#[]⟩):=cell_of bV rfl
    have d3:w5.cell? ⟨W.heap.size+1,3,none⟩=some (.int .i64 r):=cell_of bV rfl
    obtain ⟨e0,e1,e2,e3⟩:=s4_cells (B:=W.heap.size) q0 q1 q2 q3 ((4:Int)) ((0:Int)) (⟨#[]⟩) (r)
    rw [← hWF] at e0 e1 e2 e3
    have hKF:Kg b W WF:=by
      rw [hWF]
      exact ⟨kz1.os,kz1.output,by rw [s4_size];exact kz1.size,fun q h1 h2=>(s4_far _ _ _ _ _ (by omega)).trans (kz1.block q h1 h2)⟩
    have hRF:RI b p c M kz bz WF:=h0.kg hKF (by rw [hWF];exact (s4_far _ _ _ _ _ (by omega)).trans rzb) rzl
    have HFIN : Hid (RV9 b p c M k lost W (.returned (.agg #[.int .i64 ((4 : Int)), .int .i64 ((0 : Int)), .string (⟨#[]⟩), .int .i64 (r)])) WF) := (⟨⟨(4 : Int), (0 : Int), ⟨#[]⟩, r⟩, kz, bz, rfl, hRF, hkz, hKF, ⟨by show _ ≤ (0 : Int); omega, by show (0 : Int) ≤ _; omega, by show (0 : Nat) ≤ _; omega, by show (0 : Int) ≤ 4; omega, by show (4 : Int) < 256; omega, u4⟩, fun e => by have := y5 (nlost u5b e); omega, fun e => u5b (y7 e), fun y rest hl hy hm => by
          obtain ⟨r1,r2,r3⟩:=hxk y rest hl hy hm
          have hy4:y.k=4:=by have:((4:Nat):Int)=4:=rfl;omega
          have hyr:y.m=0∧y.x=⟨#[]⟩∧0≤y.r∧y.r < 5001:=by
            rcases hy.ok with q | q | q | q
            · have:=q.1;omega
            · rcases q.1 with q | q <;> omega
            · have:=q.1;omega
            · exact ⟨q.2.1,q.2.2.1,q.2.2.2.1,by have:=q.2.2.2.2;omega⟩
          have e8:v8 y = [4] ++ vb y.r.toNat:=by unfold v8;rw [if_neg (by omega),if_neg (by omega),if_neg (by omega),if_pos hy4]
          rw [e8,List.append_assoc] at hm
          obtain ⟨_,q2⟩:=drop_cons hm
          obtain ⟨t1,t2,t3⟩:=u6 y.r.toNat rest r3 (by omega) (by rw [r2];exact q2)
          refine ⟨?_,by rw [e8,t2,r2,List.length_append];(try simp) <;> (try omega),t3⟩
          obtain ⟨yk,ym,yx,yr⟩:=y
          dsimp only at hy4 hyr t1
          obtain ⟨g1,g2,g3,g4⟩:=hyr
          subst hy4 g1 g2
          rw [show r=yr by omega]⟩:RV9 b p c M k lost W _ WF)
    unfold s4 at hWF
    have HWF:Hid (WF = _):=hWF
    have HW5:Hid (w5 = _):=hw5
    clear rzb rzl kz1 bS bV hkz hRF hKF hWF hw5 bS4 bV4 hf5 rz4 u2 u3 u5 u5b u6  rd3 kg3 bS3 bV3 z3 hbl h0 y2 y5 y7 hxk
    clear HST
    go_upto_region 11 with fail
    rw [← (show w5 = _ from HW5)]
    clear HW5 s3 sz
    go_wp2_with fail
    rw [← (show WF = _ from HWF)]
    clear HWF
    refine bodyPost_ret (by simp [results,Try.results80,go_sem,e0,e1,e2,e3];rfl) rfl ?_
    exact HFIN
  by_cases h1:x=1
  case pos =>
    obtain ⟨rd3,kg3,bS3,bV3,z3,hbl,h0,y2,y5,y7,hxk⟩:=(show RI b p c M k1 l1 w3∧Kg b W w3∧w3.heap[W.heap.size]? = some (.cells #[.int .i64 0,.int .i64 0,.string ⟨#[]⟩,.int .i64 0] 41 (0,0))∧w3.heap[W.heap.size+1]? = some (.cells #[.int .i64 (x:Int),.int .i64 0,.string ⟨#[]⟩,.int .i64 0] 41 (0,0))∧w3.heap.size=W.heap.size+2∧b < W.heap.size∧RI b p c M k lost W∧k≤k1∧(l1=false→k < k1)∧(lost=true→l1=true)∧∀ (y:Gv) rest,lost=false→Wv y→M.drop k=v8 y ++ rest→(x:Int)=y.k∧k1=k+1∧l1=false from HST)
    obtain rfl:x=1:=by omega
    have h1:((1:Int) == 1)=true:=rfl
    have HSM:=im_rnum rd3
    clear rd3 kg3 bS3 bV3 z3 hbl h0 y2 y5 y7 hxk
    go_wp2_with fail
    refine HSM.mono ?_
    rintro e w4 ⟨v4,kz,bz,rfl,rz4,u2,u3,r,rfl,u4,u5,u5b,u6⟩
    clear HSM
    obtain ⟨rd3,kg3,bS3,bV3,z3,hbl,h0,y2,y5,y7,hxk⟩:=(show RI b p c M k1 l1 w3∧Kg b W w3∧w3.heap[W.heap.size]? = some (.cells #[.int .i64 0,.int .i64 0,.string ⟨#[]⟩,.int .i64 0] 41 (0,0))∧w3.heap[W.heap.size+1]? = some (.cells #[.int .i64 ((1:Nat):Int),.int .i64 0,.string ⟨#[]⟩,.int .i64 0] 41 (0,0))∧w3.heap.size=W.heap.size+2∧b < W.heap.size∧RI b p c M k lost W∧k≤k1∧(l1=false→k < k1)∧(lost=true→l1=true)∧∀ (y:Gv) rest,lost=false→Wv y→M.drop k=v8 y ++ rest→((1:Nat):Int)=y.k∧k1=k+1∧l1=false from HST)
    have bS4:w4.heap[W.heap.size]? = some (.cells #[.int .i64 0,.int .i64 0,.string ⟨#[]⟩,.int .i64 0] 41 (0,0)):=(u3.block _ (by omega)).trans bS3
    have bV4:w4.heap[W.heap.size+1]? = some (.cells #[.int .i64 ((1:Nat):Int),.int .i64 0,.string ⟨#[]⟩,.int .i64 0] 41 (0,0)):=(u3.block _ (by omega)).trans bV3
    have s3:w4.cell? ⟨W.heap.size+1,1,none⟩=some (.int .i64 0):=cell_of bV4 rfl
    have sz:∀ j,w4.frozen? ⟨W.heap.size+1,j,none⟩=false:=fun j=>frozen_of bV4
    have hcv:wrap64 r=r:=by have:=u4.1;have:=u4.2;unfold wrap64;omega
    obtain ⟨w5,hw5⟩:∃ w5,w5=w4.setCell ⟨W.heap.size+1,1,none⟩ (.int .i64 r):=⟨_,rfl⟩
    have bV:w5.heap[W.heap.size+1]? = some (.cells #[.int .i64 1,.int .i64 r,.string ⟨#[]⟩,.int .i64 0] 41 (0,0)):=by rw [hw5,set_known _ bV4];rfl
    have hf5:∀ q,q ≠ W.heap.size+1→w5.heap[q]? = w4.heap[q]?:=fun q hq=>by rw [hw5];exact Below.heap_setCell _ _ _ _ hq
    have bS:w5.heap[W.heap.size]? = some (.cells #[.int .i64 0,.int .i64 0,.string ⟨#[]⟩,.int .i64 0] 41 (0,0)):=(hf5 _ (by omega)).trans bS4
    have rzb:=(hf5 b (by omega)).trans rz4.blk
    have rzl:=rz4.le
    have kz1:Kg b W w5:=by
      have kk:=kg3.trans u3.kg
      exact ⟨by rw [hw5];exact kk.os,by rw [hw5];exact kk.output,by rw [hw5,World.size_setCell];exact kk.size,fun q h1 h2=>(hf5 q (by omega)).trans (kk.block q h1 h2)⟩
    have hkz:k≤kz:=by omega
    obtain ⟨WF,hWF⟩:∃ WF,WF=s4 w5 W.heap.size (1:Int) r ⟨#[]⟩ (0:Int):=⟨_,rfl⟩
    have q0:w5.cell? ⟨W.heap.size,0,none⟩=some (.int .i64 0):=cell_of bS rfl
    have q1:w5.cell? ⟨W.heap.size,1,none⟩=some (.int .i64 0):=cell_of bS rfl
    have q2:w5.cell? ⟨W.heap.size,2,none⟩=some (.string ⟨#[]⟩):=cell_of bS rfl
    have q3:w5.cell? ⟨W.heap.size,3,none⟩=some (.int .i64 0):=cell_of bS rfl
    have qz:∀ j,w5.frozen? ⟨W.heap.size,j,none⟩=false:=fun j=>frozen_of bS
    have d0:w5.cell? ⟨W.heap.size+1,0,none⟩=some (.int .i64 (1:Int)):=cell_of bV rfl
    have d1:w5.cell? ⟨W.heap.size+1,1,none⟩=some (.int .i64 r):=cell_of bV rfl
    have d2:w5.cell? ⟨W.heap.size+1,2,none⟩=some (.string ⟨#[]⟩):=cell_of bV rfl
    have d3:w5.cell? ⟨W.heap.size+1,3,none⟩=some (.int .i64 (0:Int)):=cell_of bV rfl
    obtain ⟨e0,e1,e2,e3⟩:=s4_cells (B:=W.heap.size) q0 q1 q2 q3 ((1:Int)) (r) (⟨#[]⟩) ((0:Int))
    rw [← hWF] at e0 e1 e2 e3
    have hKF:Kg b W WF:=by
      rw [hWF]
      exact ⟨kz1.os,kz1.output,by rw [s4_size];exact kz1.size,fun q h1 h2=>(s4_far _ _ _ _ _ (by omega)).trans (kz1.block q h1 h2)⟩
    have hRF:RI b p c M kz bz WF:=h0.kg hKF (by rw [hWF];exact (s4_far _ _ _ _ _ (by omega)).trans rzb) rzl
    have HFIN : Hid (RV9 b p c M k lost W (.returned (.agg #[.int .i64 ((1 : Int)), .int .i64 (r), .string (⟨#[]⟩), .int .i64 ((0 : Int))])) WF) := (⟨⟨(1 : Int), r, ⟨#[]⟩, (0 : Int)⟩, kz, bz, rfl, hRF, hkz, hKF, ⟨u4.1, u4.2, by show (0 : Nat) ≤ _; omega, by show (0 : Int) ≤ 1; omega, by show (1 : Int) < 256; omega, ⟨by show _ ≤ (0 : Int); omega, by show (0 : Int) ≤ _; omega⟩⟩, fun e => by have := y5 (nlost u5b e); omega, fun e => u5b (y7 e), fun y rest hl hy hm => by
          obtain ⟨r1,r2,r3⟩:=hxk y rest hl hy hm
          have hy2:y.k=1:=by have:((1:Nat):Int)=1:=rfl;omega
          have hyr:y.x=⟨#[]⟩∧y.r=0:=by
            rcases hy.ok with q | q | q | q
            · have:=q.1;omega
            · exact ⟨q.2.1,q.2.2⟩
            · have:=q.1;omega
            · have:=q.1;omega
          have e8:v8 y = [1] ++ vb (sgn y.m):=by unfold v8;rw [if_pos hy2]
          rw [e8,List.append_assoc] at hm
          obtain ⟨_,q2⟩:=drop_cons hm
          obtain ⟨t1,t2,t3⟩:=u6 y.m rest r3 ⟨hy.m0,hy.m1⟩ (by rw [r2];exact q2)
          refine ⟨?_,by rw [e8,t2,r2,List.length_append];(try simp) <;> (try omega),t3⟩
          have hmy:r=y.m:=t1
          obtain ⟨yk,ym,yx,yr⟩:=y
          dsimp only at hy2 hyr hmy
          obtain ⟨g1,g2⟩:=hyr
          subst hy2 g1 g2 hmy
          rfl⟩:RV9 b p c M k lost W _ WF)
    unfold s4 at hWF
    have HWF:Hid (WF = _):=hWF
    have HW5:Hid (w5 = _):=hw5
    clear rzb rzl kz1 bS bV hkz hRF hKF hWF hw5 bS4 bV4 hf5 rz4 u2 u3 u5 u5b u6  rd3 kg3 bS3 bV3 z3 hbl h0 y2 y5 y7 hxk
    clear HST
    go_upto_region 11 with fail
    rw [← (show w5 = _ from HW5)]
    clear HW5 s3 sz hcv
    go_wp2_with fail
    rw [← (show WF = _ from HWF)]
    clear HWF
    refine bodyPost_ret (by simp [results,Try.results80,go_sem,e0,e1,e2,e3];rfl) rfl ?_
    exact HFIN
  by_cases h2:x=2
  case pos =>
    obtain ⟨rd3,kg3,bS3,bV3,z3,hbl,h0,y2,y5,y7,hxk⟩:=(show RI b p c M k1 l1 w3∧Kg b W w3∧w3.heap[W.heap.size]? = some (.cells #[.int .i64 0,.int .i64 0,.string ⟨#[]⟩,.int .i64 0] 41 (0,0))∧w3.heap[W.heap.size+1]? = some (.cells #[.int .i64 (x:Int),.int .i64 0,.string ⟨#[]⟩,.int .i64 0] 41 (0,0))∧w3.heap.size=W.heap.size+2∧b < W.heap.size∧RI b p c M k lost W∧k≤k1∧(l1=false→k < k1)∧(lost=true→l1=true)∧∀ (y:Gv) rest,lost=false→Wv y→M.drop k=v8 y ++ rest→(x:Int)=y.k∧k1=k+1∧l1=false from HST)
    obtain rfl:x=2:=by omega
    have h1:((2:Int) == 1)=false:=rfl
    have h2:((2:Int) == 2)=true:=rfl
    have HSM:=im_reight rd3
    clear rd3 kg3 bS3 bV3 z3 hbl h0 y2 y5 y7 hxk
    go_wp2_with fail
    refine HSM.mono ?_
    rintro e w4 ⟨v4,kz,bz,rfl,rz4,u2,u3,r,rfl,u4,u5b,u6⟩
    clear HSM
    obtain ⟨rd3,kg3,bS3,bV3,z3,hbl,h0,y2,y5,y7,hxk⟩:=(show RI b p c M k1 l1 w3∧Kg b W w3∧w3.heap[W.heap.size]? = some (.cells #[.int .i64 0,.int .i64 0,.string ⟨#[]⟩,.int .i64 0] 41 (0,0))∧w3.heap[W.heap.size+1]? = some (.cells #[.int .i64 ((2:Nat):Int),.int .i64 0,.string ⟨#[]⟩,.int .i64 0] 41 (0,0))∧w3.heap.size=W.heap.size+2∧b < W.heap.size∧RI b p c M k lost W∧k≤k1∧(l1=false→k < k1)∧(lost=true→l1=true)∧∀ (y:Gv) rest,lost=false→Wv y→M.drop k=v8 y ++ rest→((2:Nat):Int)=y.k∧k1=k+1∧l1=false from HST)
    have bS4:w4.heap[W.heap.size]? = some (.cells #[.int .i64 0,.int .i64 0,.string ⟨#[]⟩,.int .i64 0] 41 (0,0)):=(u3.block _ (by omega)).trans bS3
    have bV4:w4.heap[W.heap.size+1]? = some (.cells #[.int .i64 ((2:Nat):Int),.int .i64 0,.string ⟨#[]⟩,.int .i64 0] 41 (0,0)):=(u3.block _ (by omega)).trans bV3
    have s3:w4.cell? ⟨W.heap.size+1,1,none⟩=some (.int .i64 0):=cell_of bV4 rfl
    have sz:∀ j,w4.frozen? ⟨W.heap.size+1,j,none⟩=false:=fun j=>frozen_of bV4
    obtain ⟨mm,hmm⟩:∃ mm:Int,mm=wrap64 (r:Int):=⟨_,rfl⟩
    rw [← hmm]
    have hmr : -9223372036854775808≤mm∧mm≤9223372036854775807:=by rw [hmm];exact wr64_rg _
    have u5:True:=trivial
    obtain ⟨w5,hw5⟩:∃ w5,w5=w4.setCell ⟨W.heap.size+1,1,none⟩ (.int .i64 mm):=⟨_,rfl⟩
    have bV:w5.heap[W.heap.size+1]? = some (.cells #[.int .i64 2,.int .i64 mm,.string ⟨#[]⟩,.int .i64 0] 41 (0,0)):=by rw [hw5,set_known _ bV4];rfl
    have hf5:∀ q,q ≠ W.heap.size+1→w5.heap[q]? = w4.heap[q]?:=fun q hq=>by rw [hw5];exact Below.heap_setCell _ _ _ _ hq
    have bS:w5.heap[W.heap.size]? = some (.cells #[.int .i64 0,.int .i64 0,.string ⟨#[]⟩,.int .i64 0] 41 (0,0)):=(hf5 _ (by omega)).trans bS4
    have rzb:=(hf5 b (by omega)).trans rz4.blk
    have rzl:=rz4.le
    have kz1:Kg b W w5:=by
      have kk:=kg3.trans u3.kg
      exact ⟨by rw [hw5];exact kk.os,by rw [hw5];exact kk.output,by rw [hw5,World.size_setCell];exact kk.size,fun q h1 h2=>(hf5 q (by omega)).trans (kk.block q h1 h2)⟩
    have hkz:k≤kz:=by omega
    obtain ⟨WF,hWF⟩:∃ WF,WF=s4 w5 W.heap.size (2:Int) mm ⟨#[]⟩ (0:Int):=⟨_,rfl⟩
    have q0:w5.cell? ⟨W.heap.size,0,none⟩=some (.int .i64 0):=cell_of bS rfl
    have q1:w5.cell? ⟨W.heap.size,1,none⟩=some (.int .i64 0):=cell_of bS rfl
    have q2:w5.cell? ⟨W.heap.size,2,none⟩=some (.string ⟨#[]⟩):=cell_of bS rfl
    have q3:w5.cell? ⟨W.heap.size,3,none⟩=some (.int .i64 0):=cell_of bS rfl
    have qz:∀ j,w5.frozen? ⟨W.heap.size,j,none⟩=false:=fun j=>frozen_of bS
    have d0:w5.cell? ⟨W.heap.size+1,0,none⟩=some (.int .i64 (2:Int)):=cell_of bV rfl
    have d1:w5.cell? ⟨W.heap.size+1,1,none⟩=some (.int .i64 mm):=cell_of bV rfl
    have d2:w5.cell? ⟨W.heap.size+1,2,none⟩=some (.string ⟨#[]⟩):=cell_of bV rfl
    have d3:w5.cell? ⟨W.heap.size+1,3,none⟩=some (.int .i64 (0:Int)):=cell_of bV rfl
    obtain ⟨e0,e1,e2,e3⟩:=s4_cells (B:=W.heap.size) q0 q1 q2 q3 ((2:Int)) (mm) (⟨#[]⟩) ((0:Int))
    rw [← hWF] at e0 e1 e2 e3
    have hKF:Kg b W WF:=by
      rw [hWF]
      exact ⟨kz1.os,kz1.output,by rw [s4_size];exact kz1.size,fun q h1 h2=>(s4_far _ _ _ _ _ (by omega)).trans (kz1.block q h1 h2)⟩
    have hRF:RI b p c M kz bz WF:=h0.kg hKF (by rw [hWF];exact (s4_far _ _ _ _ _ (by omega)).trans rzb) rzl
    have HFIN : Hid (RV9 b p c M k lost W (.returned (.agg #[.int .i64 ((2 : Int)), .int .i64 (mm), .string (⟨#[]⟩), .int .i64 ((0 : Int))])) WF) := (⟨⟨(2 : Int), mm, ⟨#[]⟩, (0 : Int)⟩, kz, bz, rfl, hRF, hkz, hKF, ⟨hmr.1, hmr.2, by show (0 : Nat) ≤ _; omega, by show (0 : Int) ≤ 2; omega, by show (2 : Int) < 256; omega, ⟨by show _ ≤ (0 : Int); omega, by show (0 : Int) ≤ _; omega⟩⟩, fun e => by have := y5 (nlost u5b e); omega, fun e => u5b (y7 e), fun y rest hl hy hm => by
          obtain ⟨r1,r2,r3⟩:=hxk y rest hl hy hm
          have hy2:y.k=2:=by have:((2:Nat):Int)=2:=rfl;omega
          have hyr:y.x=⟨#[]⟩∧y.r=0:=by
            rcases hy.ok with q | q | q | q
            · have:=q.1;omega
            · exact ⟨q.2.1,q.2.2⟩
            · have:=q.1;omega
            · have:=q.1;omega
          have e8:v8 y = [2] ++ Fo.e8 (y.m % 18446744073709551616).toNat 8:=by unfold v8;rw [if_neg (by omega),if_pos hy2]
          rw [e8,List.append_assoc] at hm
          obtain ⟨_,q2⟩:=drop_cons hm
          obtain ⟨t1,t2,t3⟩:=u6 (y.m % 18446744073709551616).toNat rest r3 (by omega) (by rw [r2];exact q2)
          refine ⟨?_,by rw [e8,t2,r2,List.length_append,e8_len];(try simp) <;> (try omega),t3⟩
          have hmy:mm=y.m:=by rw [hmm,t1];have:=hy.m0;have:=hy.m1;unfold wrap64;omega
          obtain ⟨yk,ym,yx,yr⟩:=y
          dsimp only at hy2 hyr hmy
          obtain ⟨g1,g2⟩:=hyr
          subst hy2 g1 g2 hmy
          rfl⟩:RV9 b p c M k lost W _ WF)
    unfold s4 at hWF
    have HWF:Hid (WF = _):=hWF
    have HW5:Hid (w5 = _):=hw5
    clear rzb rzl kz1 bS bV hkz hRF hKF hWF hw5 bS4 bV4 hf5 rz4 u2 u3 u5 u5b u6 hmm hmr rd3 kg3 bS3 bV3 z3 hbl h0 y2 y5 y7 hxk
    clear HST
    go_upto_region 11 with fail
    rw [← (show w5 = _ from HW5)]
    clear HW5 s3 sz
    go_wp2_with fail
    rw [← (show WF = _ from HWF)]
    clear HWF
    refine bodyPost_ret (by simp [results,Try.results80,go_sem,e0,e1,e2,e3];rfl) rfl ?_
    exact HFIN
  by_cases h3:x=3
  case pos =>
    obtain ⟨rd3,kg3,bS3,bV3,z3,hbl,h0,y2,y5,y7,hxk⟩:=(show RI b p c M k1 l1 w3∧Kg b W w3∧w3.heap[W.heap.size]? = some (.cells #[.int .i64 0,.int .i64 0,.string ⟨#[]⟩,.int .i64 0] 41 (0,0))∧w3.heap[W.heap.size+1]? = some (.cells #[.int .i64 (x:Int),.int .i64 0,.string ⟨#[]⟩,.int .i64 0] 41 (0,0))∧w3.heap.size=W.heap.size+2∧b < W.heap.size∧RI b p c M k lost W∧k≤k1∧(l1=false→k < k1)∧(lost=true→l1=true)∧∀ (y:Gv) rest,lost=false→Wv y→M.drop k=v8 y ++ rest→(x:Int)=y.k∧k1=k+1∧l1=false from HST)
    obtain rfl:x=3:=by omega
    have h1:((3:Int) == 1)=false:=rfl
    have h2:((3:Int) == 2)=false:=rfl
    have h3:((3:Int) == 3)=true:=rfl
    have HSM:=im_rcount rd3
    clear rd3 kg3 bS3 bV3 z3 hbl h0 y2 y5 y7 hxk
    go_wp2_with fail
    refine HSM.mono ?_
    rintro e w4 ⟨v4,kq,bq,rfl,rz4,u2,u3,r,rfl,u4,u5,u5b,u6⟩
    clear HSM
    have HST4:Hid (RI b p c M kq bq w4∧k1≤kq∧Kz b w3 w4∧Rn r∧(l1=true→bq=true)∧∀ (y:Nat) rest,l1=false→y≤9223372036854775807→M.drop k1=vb y ++ rest→r=(y:Int)∧kq=k1+(vb y).length∧bq=false):=(⟨rz4,u2,u3,u4,u5b,u6⟩:_∧_)
    clear rz4 u2 u3 u4 u5 u5b u6
    go_wp2_with fail
    obtain ⟨rz4,u2,u3,u4,u5b,u6⟩:=(show RI b p c M kq bq w4∧k1≤kq∧Kz b w3 w4∧Rn r∧(l1=true→bq=true)∧∀ (y:Nat) rest,l1=false→y≤9223372036854775807→M.drop k1=vb y ++ rest→r=(y:Int)∧kq=k1+(vb y).length∧bq=false from HST4)
    by_cases hf:bq=false∧0≤r∧r≤(M.length:Int) - (kq:Int)
    · obtain ⟨rfl,hn0,hn1⟩:=hf
      obtain ⟨N,rfl⟩:∃ N:Nat,r=(N:Int):=⟨r.toNat,by omega⟩
      refine (im_take_fits N rz4 (by omega)).mono ?_
      rintro e w5 ⟨⟨q,rfl,hq⟩,t1,t2⟩
      have hcv:=conv_taken (k:=kq) (N:=N) t1 (by omega)
      rw [← hq] at hcv
      obtain ⟨X,hX⟩:∃ X:ByteArray,X=⟨((M.drop kq).take N).toArray⟩:=⟨_,rfl⟩
      rw [← hX] at hcv
      have hXz:X.size≤1000000:=by
        have e1:X.size=((M.drop kq).take N).length:=by rw [hX];rfl
        have e2:=rz4.sz
        rw [e1,List.length_take,List.length_drop]
        omega
      obtain ⟨kz,hkz0⟩:∃ kz,kz=kq+N:=⟨_,rfl⟩
      obtain ⟨bz,hbz0⟩:∃ bz,bz=false:=⟨_,rfl⟩
      obtain ⟨rd3,kg3,bS3,bV3,z3,hbl,h0,y2,y5,y7,hxk⟩:=(show RI b p c M k1 l1 w3∧Kg b W w3∧w3.heap[W.heap.size]? = some (.cells #[.int .i64 0,.int .i64 0,.string ⟨#[]⟩,.int .i64 0] 41 (0,0))∧w3.heap[W.heap.size+1]? = some (.cells #[.int .i64 ((3:Nat):Int),.int .i64 0,.string ⟨#[]⟩,.int .i64 0] 41 (0,0))∧w3.heap.size=W.heap.size+2∧b < W.heap.size∧RI b p c M k lost W∧k≤k1∧(l1=false→k < k1)∧(lost=true→l1=true)∧∀ (y:Gv) rest,lost=false→Wv y→M.drop k=v8 y ++ rest→((3:Nat):Int)=y.k∧k1=k+1∧l1=false from HST)
      have u45:Kz b w3 w5:=u3.trans t2
      have bS5:w5.heap[W.heap.size]? = some (.cells #[.int .i64 0,.int .i64 0,.string ⟨#[]⟩,.int .i64 0] 41 (0,0)):=(u45.block _ (by omega)).trans bS3
      have bV5:w5.heap[W.heap.size+1]? = some (.cells #[.int .i64 ((3:Nat):Int),.int .i64 0,.string ⟨#[]⟩,.int .i64 0] 41 (0,0)):=(u45.block _ (by omega)).trans bV3
      have s3:w5.cell? ⟨W.heap.size+1,2,none⟩=some (.string ⟨#[]⟩):=cell_of bV5 rfl
      have sz:∀ j,w5.frozen? ⟨W.heap.size+1,j,none⟩=false:=fun j=>frozen_of bV5
      obtain ⟨w6,hw6⟩:∃ w6,w6=w5.setCell ⟨W.heap.size+1,2,none⟩ (.string X):=⟨_,rfl⟩
      have bV:w6.heap[W.heap.size+1]? = some (.cells #[.int .i64 3,.int .i64 0,.string X,.int .i64 0] 41 (0,0)):=by rw [hw6,set_known _ bV5];rfl
      have hf6:∀ q,q ≠ W.heap.size+1→w6.heap[q]? = w5.heap[q]?:=fun q hq=>by rw [hw6];exact Below.heap_setCell _ _ _ _ hq
      have bS:w6.heap[W.heap.size]? = some (.cells #[.int .i64 0,.int .i64 0,.string ⟨#[]⟩,.int .i64 0] 41 (0,0)):=(hf6 _ (by omega)).trans bS5
      have rzb:=(hf6 b (by omega)).trans t1.blk
      have rzl:=t1.le
      rw [← hkz0] at rzb rzl
      rw [← hbz0] at rzb
      have kz1:Kg b W w6:=by
        have kk:=kg3.trans u45.kg
        exact ⟨by rw [hw6];exact kk.os,by rw [hw6];exact kk.output,by rw [hw6,World.size_setCell];exact kk.size,fun q h1 h2=>(hf6 q (by omega)).trans (kk.block q h1 h2)⟩
      have hkz:k≤kz:=by omega
      obtain ⟨WF,hWF⟩:∃ WF,WF=s4 w6 W.heap.size (3:Int) (0:Int) X (0:Int):=⟨_,rfl⟩
      have q0:w6.cell? ⟨W.heap.size,0,none⟩=some (.int .i64 0):=cell_of bS rfl
      have q1:w6.cell? ⟨W.heap.size,1,none⟩=some (.int .i64 0):=cell_of bS rfl
      have q2:w6.cell? ⟨W.heap.size,2,none⟩=some (.string ⟨#[]⟩):=cell_of bS rfl
      have q3:w6.cell? ⟨W.heap.size,3,none⟩=some (.int .i64 0):=cell_of bS rfl
      have qz:∀ j,w6.frozen? ⟨W.heap.size,j,none⟩=false:=fun j=>frozen_of bS
      have d0:w6.cell? ⟨W.heap.size+1,0,none⟩=some (.int .i64 (3:Int)):=cell_of bV rfl
      have d1:w6.cell? ⟨W.heap.size+1,1,none⟩=some (.int .i64 (0:Int)):=cell_of bV rfl
      have d2:w6.cell? ⟨W.heap.size+1,2,none⟩=some (.string X):=cell_of bV rfl
      have d3:w6.cell? ⟨W.heap.size+1,3,none⟩=some (.int .i64 (0:Int)):=cell_of bV rfl
      obtain ⟨e0,e1,e2,e3⟩:=s4_cells (B:=W.heap.size) q0 q1 q2 q3 ((3:Int)) ((0:Int)) (X) ((0:Int))
      rw [← hWF] at e0 e1 e2 e3
      have hKF:Kg b W WF:=by
        rw [hWF]
        exact ⟨kz1.os,kz1.output,by rw [s4_size];exact kz1.size,fun q h1 h2=>(s4_far _ _ _ _ _ (by omega)).trans (kz1.block q h1 h2)⟩
      have hRF:RI b p c M kz bz WF:=h0.kg hKF (by rw [hWF];exact (s4_far _ _ _ _ _ (by omega)).trans rzb) rzl
      have HFIN : Hid (RV9 b p c M k lost W (.returned (.agg #[.int .i64 ((3 : Int)), .int .i64 ((0 : Int)), .string (X), .int .i64 ((0 : Int))])) WF) := (⟨⟨(3 : Int), (0 : Int), X, (0 : Int)⟩, kz, bz, rfl, hRF, hkz, hKF, ⟨by show _ ≤ (0 : Int); omega, by show (0 : Int) ≤ _; omega, hXz, by show (0 : Int) ≤ 3; omega, by show (3 : Int) < 256; omega, ⟨by show _ ≤ (0 : Int); omega, by show (0 : Int) ≤ _; omega⟩⟩, fun e => by have := y5 (nlost u5b rfl); omega, fun e => absurd (u5b (y7 e)) (by simp), fun y rest hl hy hm => by
            obtain ⟨r1,r2,r3⟩:=hxk y rest hl hy hm
            have hy3:y.k=3:=by have:((3:Nat):Int)=3:=rfl;omega
            obtain ⟨hyx,hym,hyr⟩:=Wv.x3 hy hy3
            have e8:v8 y = [3] ++ vb y.x.size ++ y.x.data.toList:=v8_3 hy3
            rw [e8,List.append_assoc,List.append_assoc] at hm
            obtain ⟨q0,q2⟩:=drop_cons hm
            have q3:M.drop (k+1)=vb y.x.size ++ (y.x.data.toList ++ rest):=q2
            obtain ⟨t4,t5,t6⟩:=u6 y.x.size (y.x.data.toList ++ rest) r3 (by omega) (by rw [r2];exact q3)
            have h9:y.x.data.toList.length=y.x.size:=Array.length_toList
            have q4:M.drop kq=y.x.data.toList ++ rest:=by rw [t5,r2,← List.drop_drop,q3,List.drop_left]
            refine ⟨?_,by rw [e8,hkz0,t5,r2,List.length_append,List.length_append,h9,show N=y.x.size by omega];show _=k+(1+_+_);omega,hbz0⟩
            have hXy:X=y.x:=by
              rw [hX,q4,show N=y.x.data.toList.length by omega,List.take_left]
            obtain ⟨yk,ym,yx,yr⟩:=y
            dsimp only at hy3 hym hyr hXy
            subst hy3 hym hyr hXy
            rfl⟩:RV9 b p c M k lost W _ WF)
      unfold s4 at hWF
      have HWF:Hid (WF = _):=hWF
      have HW6:Hid (w6 = _):=hw6
      clear rzb rzl kz1 bS bV hkz hRF hKF hWF hw6 bS5 bV5 hf6 rz4 t1 t2 u2 u3 u45 u5b u6 hX hXz hkz0 hbz0 hq rd3 kg3 bS3 bV3 z3 hbl h0 y2 y5 y7 hxk
      clear HST HST4
      go_upto_region 11 with fail
      rw [← (show w6 = _ from HW6)]
      clear HW6 s3 sz hcv
      go_wp2_with fail
      rw [← (show WF = _ from HWF)]
      clear HWF
      refine bodyPost_ret (by simp [results,Try.results80,go_sem,e0,e1,e2,e3];rfl) rfl ?_
      exact HFIN
    · skip
      refine (im_take_not r rz4 (by
        cases bq with
        | true=>exact .inl rfl
        | false =>
          by_cases c0:r < 0
          · exact .inr (.inl c0)
          · exact .inr (.inr (by have:¬ r≤(M.length:Int) - (kq:Int):=fun e=>hf ⟨rfl,by omega,e⟩;omega)))).mono ?_
      rintro e w5 ⟨rfl,t1,t2⟩
      have hcv:=conv_zero none 0 w5
      obtain ⟨X,hX⟩:∃ X:ByteArray,X=⟨#[]⟩:=⟨_,rfl⟩
      rw [← hX] at hcv
      have hXz:X.size≤1000000:=by rw [hX];show (0:Nat)≤_;omega
      obtain ⟨kz,hkz0⟩:∃ kz,kz=kq:=⟨_,rfl⟩
      obtain ⟨bz,hbz0⟩:∃ bz,bz=true:=⟨_,rfl⟩
      obtain ⟨rd3,kg3,bS3,bV3,z3,hbl,h0,y2,y5,y7,hxk⟩:=(show RI b p c M k1 l1 w3∧Kg b W w3∧w3.heap[W.heap.size]? = some (.cells #[.int .i64 0,.int .i64 0,.string ⟨#[]⟩,.int .i64 0] 41 (0,0))∧w3.heap[W.heap.size+1]? = some (.cells #[.int .i64 ((3:Nat):Int),.int .i64 0,.string ⟨#[]⟩,.int .i64 0] 41 (0,0))∧w3.heap.size=W.heap.size+2∧b < W.heap.size∧RI b p c M k lost W∧k≤k1∧(l1=false→k < k1)∧(lost=true→l1=true)∧∀ (y:Gv) rest,lost=false→Wv y→M.drop k=v8 y ++ rest→((3:Nat):Int)=y.k∧k1=k+1∧l1=false from HST)
      have u45:Kz b w3 w5:=u3.trans t2
      have bS5:w5.heap[W.heap.size]? = some (.cells #[.int .i64 0,.int .i64 0,.string ⟨#[]⟩,.int .i64 0] 41 (0,0)):=(u45.block _ (by omega)).trans bS3
      have bV5:w5.heap[W.heap.size+1]? = some (.cells #[.int .i64 ((3:Nat):Int),.int .i64 0,.string ⟨#[]⟩,.int .i64 0] 41 (0,0)):=(u45.block _ (by omega)).trans bV3
      have s3:w5.cell? ⟨W.heap.size+1,2,none⟩=some (.string ⟨#[]⟩):=cell_of bV5 rfl
      have sz:∀ j,w5.frozen? ⟨W.heap.size+1,j,none⟩=false:=fun j=>frozen_of bV5
      obtain ⟨w6,hw6⟩:∃ w6,w6=w5.setCell ⟨W.heap.size+1,2,none⟩ (.string X):=⟨_,rfl⟩
      have bV:w6.heap[W.heap.size+1]? = some (.cells #[.int .i64 3,.int .i64 0,.string X,.int .i64 0] 41 (0,0)):=by rw [hw6,set_known _ bV5];rfl
      have hf6:∀ q,q ≠ W.heap.size+1→w6.heap[q]? = w5.heap[q]?:=fun q hq=>by rw [hw6];exact Below.heap_setCell _ _ _ _ hq
      have bS:w6.heap[W.heap.size]? = some (.cells #[.int .i64 0,.int .i64 0,.string ⟨#[]⟩,.int .i64 0] 41 (0,0)):=(hf6 _ (by omega)).trans bS5
      have rzb:=(hf6 b (by omega)).trans t1.blk
      have rzl:=t1.le
      rw [← hkz0] at rzb rzl
      rw [← hbz0] at rzb
      have kz1:Kg b W w6:=by
        have kk:=kg3.trans u45.kg
        exact ⟨by rw [hw6];exact kk.os,by rw [hw6];exact kk.output,by rw [hw6,World.size_setCell];exact kk.size,fun q h1 h2=>(hf6 q (by omega)).trans (kk.block q h1 h2)⟩
      have hkz:k≤kz:=by omega
      obtain ⟨WF,hWF⟩:∃ WF,WF=s4 w6 W.heap.size (3:Int) (0:Int) X (0:Int):=⟨_,rfl⟩
      have q0:w6.cell? ⟨W.heap.size,0,none⟩=some (.int .i64 0):=cell_of bS rfl
      have q1:w6.cell? ⟨W.heap.size,1,none⟩=some (.int .i64 0):=cell_of bS rfl
      have q2:w6.cell? ⟨W.heap.size,2,none⟩=some (.string ⟨#[]⟩):=cell_of bS rfl
      have q3:w6.cell? ⟨W.heap.size,3,none⟩=some (.int .i64 0):=cell_of bS rfl
      have qz:∀ j,w6.frozen? ⟨W.heap.size,j,none⟩=false:=fun j=>frozen_of bS
      have d0:w6.cell? ⟨W.heap.size+1,0,none⟩=some (.int .i64 (3:Int)):=cell_of bV rfl
      have d1:w6.cell? ⟨W.heap.size+1,1,none⟩=some (.int .i64 (0:Int)):=cell_of bV rfl
      have d2:w6.cell? ⟨W.heap.size+1,2,none⟩=some (.string X):=cell_of bV rfl
      have d3:w6.cell? ⟨W.heap.size+1,3,none⟩=some (.int .i64 (0:Int)):=cell_of bV rfl
      obtain ⟨e0,e1,e2,e3⟩:=s4_cells (B:=W.heap.size) q0 q1 q2 q3 ((3:Int)) ((0:Int)) (X) ((0:Int))
      rw [← hWF] at e0 e1 e2 e3
      have hKF:Kg b W WF:=by
        rw [hWF]
        exact ⟨kz1.os,kz1.output,by rw [s4_size];exact kz1.size,fun q h1 h2=>(s4_far _ _ _ _ _ (by omega)).trans (kz1.block q h1 h2)⟩
      have hRF:RI b p c M kz bz WF:=h0.kg hKF (by rw [hWF];exact (s4_far _ _ _ _ _ (by omega)).trans rzb) rzl
      have HFIN : Hid (RV9 b p c M k lost W (.returned (.agg #[.int .i64 ((3 : Int)), .int .i64 ((0 : Int)), .string (X), .int .i64 ((0 : Int))])) WF) := (⟨⟨(3 : Int), (0 : Int), X, (0 : Int)⟩, kz, bz, rfl, hRF, hkz, hKF, ⟨by show _ ≤ (0 : Int); omega, by show (0 : Int) ≤ _; omega, hXz, by show (0 : Int) ≤ 3; omega, by show (3 : Int) < 256; omega, ⟨by show _ ≤ (0 : Int); omega, by show (0 : Int) ≤ _; omega⟩⟩, fun e => absurd (hbz0.symm.trans e) (by simp), fun e => hbz0, fun y rest hl hy hm => by
            obtain ⟨r1,r2,r3⟩:=hxk y rest hl hy hm
            have hy3:y.k=3:=by have:((3:Nat):Int)=3:=rfl;omega
            obtain ⟨hyx,hym,hyr⟩:=Wv.x3 hy hy3
            have e8:v8 y = [3] ++ vb y.x.size ++ y.x.data.toList:=v8_3 hy3
            rw [e8,List.append_assoc,List.append_assoc] at hm
            obtain ⟨q0,q2⟩:=drop_cons hm
            have q3:M.drop (k+1)=vb y.x.size ++ (y.x.data.toList ++ rest):=q2
            obtain ⟨t4,t5,t6⟩:=u6 y.x.size (y.x.data.toList ++ rest) r3 (by omega) (by rw [r2];exact q3)
            have h9:y.x.data.toList.length=y.x.size:=Array.length_toList
            have q4:M.drop kq=y.x.data.toList ++ rest:=by rw [t5,r2,← List.drop_drop,q3,List.drop_left]
            exfalso
            have q5:=congrArg List.length q4
            rw [List.length_drop,List.length_append] at q5
            have hkM:=rz4.le
            exact hf ⟨t6,by omega,by omega⟩⟩:RV9 b p c M k lost W _ WF)
      unfold s4 at hWF
      have HWF:Hid (WF = _):=hWF
      have HW6:Hid (w6 = _):=hw6
      clear rzb rzl kz1 bS bV hkz hRF hKF hWF hw6 bS5 bV5 hf6 rz4 t1 t2 u2 u3 u45 u5b u6 hX hXz hkz0 hbz0 hf rd3 kg3 bS3 bV3 z3 hbl h0 y2 y5 y7 hxk
      clear HST HST4
      go_upto_region 11 with fail
      rw [← (show w6 = _ from HW6)]
      clear HW6 s3 sz hcv
      go_wp2_with fail
      rw [← (show WF = _ from HWF)]
      clear HWF
      refine bodyPost_ret (by simp [results,Try.results80,go_sem,e0,e1,e2,e3];rfl) rfl ?_
      exact HFIN
  obtain ⟨rd3,kg3,bS3,bV3,z3,hbl,h0,y2,y5,y7,hxk⟩:=(show RI b p c M k1 l1 w3∧Kg b W w3∧w3.heap[W.heap.size]? = some (.cells #[.int .i64 0,.int .i64 0,.string ⟨#[]⟩,.int .i64 0] 41 (0,0))∧w3.heap[W.heap.size+1]? = some (.cells #[.int .i64 (x:Int),.int .i64 0,.string ⟨#[]⟩,.int .i64 0] 41 (0,0))∧w3.heap.size=W.heap.size+2∧b < W.heap.size∧RI b p c M k lost W∧k≤k1∧(l1=false→k < k1)∧(lost=true→l1=true)∧∀ (y:Gv) rest,lost=false→Wv y→M.drop k=v8 y ++ rest→(x:Int)=y.k∧k1=k+1∧l1=false from HST)
  have g1:((x:Int) == 1)=false:=bne (by omega)
  have g2:((x:Int) == 2)=false:=bne (by omega)
  have g3:((x:Int) == 3)=false:=bne (by omega)
  have g4:((x:Int) == 4)=false:=bne (by omega)
  have kz1:=kg3
  have bS:=bS3
  have bV:=bV3
  obtain ⟨kz,hkz0⟩:∃ kz,kz=k1:=⟨_,rfl⟩
  obtain ⟨bz,hbz0⟩:∃ bz,bz=l1:=⟨_,rfl⟩
  have rzb:=rd3.blk
  have rzl:=rd3.le
  rw [← hkz0,← hbz0] at rzb
  rw [← hkz0] at rzl
  have hkz:k≤kz:=by omega
  obtain ⟨WF,hWF⟩:∃ WF,WF=s4 w3 W.heap.size (x:Int) (0:Int) ⟨#[]⟩ (0:Int):=⟨_,rfl⟩
  have q0:w3.cell? ⟨W.heap.size,0,none⟩=some (.int .i64 0):=cell_of bS rfl
  have q1:w3.cell? ⟨W.heap.size,1,none⟩=some (.int .i64 0):=cell_of bS rfl
  have q2:w3.cell? ⟨W.heap.size,2,none⟩=some (.string ⟨#[]⟩):=cell_of bS rfl
  have q3:w3.cell? ⟨W.heap.size,3,none⟩=some (.int .i64 0):=cell_of bS rfl
  have qz:∀ j,w3.frozen? ⟨W.heap.size,j,none⟩=false:=fun j=>frozen_of bS
  have d0:w3.cell? ⟨W.heap.size+1,0,none⟩=some (.int .i64 (x:Int)):=cell_of bV rfl
  have d1:w3.cell? ⟨W.heap.size+1,1,none⟩=some (.int .i64 (0:Int)):=cell_of bV rfl
  have d2:w3.cell? ⟨W.heap.size+1,2,none⟩=some (.string ⟨#[]⟩):=cell_of bV rfl
  have d3:w3.cell? ⟨W.heap.size+1,3,none⟩=some (.int .i64 (0:Int)):=cell_of bV rfl
  obtain ⟨e0,e1,e2,e3⟩:=s4_cells (B:=W.heap.size) q0 q1 q2 q3 ((x:Int)) ((0:Int)) (⟨#[]⟩) ((0:Int))
  rw [← hWF] at e0 e1 e2 e3
  have hKF:Kg b W WF:=by
    rw [hWF]
    exact ⟨kz1.os,kz1.output,by rw [s4_size];exact kz1.size,fun q h1 h2=>(s4_far _ _ _ _ _ (by omega)).trans (kz1.block q h1 h2)⟩
  have hRF:RI b p c M kz bz WF:=h0.kg hKF (by rw [hWF];exact (s4_far _ _ _ _ _ (by omega)).trans rzb) rzl
  have HFIN : Hid (RV9 b p c M k lost W (.returned (.agg #[.int .i64 ((x : Int)), .int .i64 ((0 : Int)), .string (⟨#[]⟩), .int .i64 ((0 : Int))])) WF) := (⟨⟨(x : Int), (0 : Int), ⟨#[]⟩, (0 : Int)⟩, kz, bz, rfl, hRF, hkz, hKF, ⟨by show _ ≤ (0 : Int); omega, by show (0 : Int) ≤ _; omega, by show (0 : Nat) ≤ _; omega, by show (0 : Int) ≤ (x : Int); omega, hxI, ⟨by show _ ≤ (0 : Int); omega, by show (0 : Int) ≤ _; omega⟩⟩, by rw [hkz0, hbz0]; exact y5, by rw [hbz0]; exact y7, fun y rest hl hy hm => by
        obtain ⟨r1,r2,r3⟩:=hxk y rest hl hy hm
        have hy0:y.k=0:=by
          obtain ⟨t,et,hk⟩:=v8_head y hy
          omega
        rcases hy.ok with q | q | q | q
        · refine ⟨?_,?_,by rw [hbz0];exact r3⟩
          · obtain ⟨yk,ym,yx,yr⟩:=y
            obtain ⟨q1,q2,q3,q4⟩:=q
            dsimp only at q1 q2 q3 q4 r1
            subst q1 q2 q3 q4
            rw [r1]
          · rw [hkz0,r2];unfold v8;rw [if_neg (by omega),if_neg (by omega),if_neg (by omega),if_neg (by omega)];rfl
        · rcases q.1 with q | q <;> omega
        · have:=q.1;omega
        · have:=q.1;omega⟩:RV9 b p c M k lost W _ WF)
  unfold s4 at hWF
  have HWF:Hid (WF = _):=hWF
  clear rzb rzl kz1 bS bV hkz hRF hKF hWF rd3 kg3 bS3 bV3 z3 hbl h0 y2 y5 y7 hxk
  clear hkz0 hbz0 HST
  go_wp2_with fail
  rw [← (show WF = _ from HWF)]
  clear HWF
  refine bodyPost_ret (by simp [results,Try.results80,go_sem,e0,e1,e2,e3];rfl) rfl ?_
  exact HFIN
end Go.Proofs.Ytamcnmnaadpfoaa.Fo
