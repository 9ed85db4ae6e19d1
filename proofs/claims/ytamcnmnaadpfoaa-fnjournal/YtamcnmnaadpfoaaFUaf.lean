import Derived.Test.YtamcnmnaadpfoaaFUac
import Derived.Laws.BytesString
import Derived.Test.YtamcnmnaadpfoaaFReg
set_option maxHeartbeats 16000000
namespace Go.Proofs.Ytamcnmnaadpfoaa.Fo
open Go.ChangeShapes Go.WideShapes Go.ChangeAt Go.RowKit
set_option linter.unusedVariables false
set_option maxRecDepth 100000
theorem RD.kg {b:Nat} {a:Addr} {c:Nat} {M:List UInt8} {k k':Nat} {bad bad':Bool} {W w':World} (h:RD b a c M k bad W) (z:Kg b W w') (ha:a.block < W.heap.size∨M = []) (hb:w'.heap[b]? = some (.cells #[.slice (some a) M.length c,.int .i64 (k':Int),.bool bad'] 70 (0,0))) (hk:k'≤8200):RD b a c M k' bad' w' :=
 ⟨hb,hk,h.sz,h.cap,h.ne,fun i x hx=>by
  rcases ha with q | q
  ·exact (World.cell?_of_block (by rw [add_block];exact z.block _ q h.ne)).trans (h.row i x hx)
  ·rw [q] at hx;simp at hx⟩
theorem RD.far {b g:Nat} {a:Addr} {c:Nat} {M:List UInt8} {k:Nat} {bad:Bool} {W w':World} (h:RD b a c M k bad W) (hf:∀ q,q ≠ g→w'.heap[q]? = W.heap[q]?) (hg:g ≠ b) (hga:M = []∨g ≠ a.block):RD b a c M k bad w' :=
 ⟨(hf b (fun e=>hg e.symm)).trans h.blk,h.le,h.sz,h.cap,h.ne,fun i x hx=>by
  rcases hga with q | q
  ·rw [q] at hx;simp at hx
  ·exact (World.cell?_of_block (by rw [add_block];exact hf _ (fun e=>q e.symm))).trans (h.row i x hx)⟩
theorem add_add2 (a:Addr) (i j:Nat):(a.add i).add j=a.add (i+j):=by
 unfold Addr.add
 by_cases hi:i=0 <;> by_cases hj:j=0 <;> simp [hi,hj,Nat.add_assoc]
theorem Wv.x3 {y:Gv} (hy:Wv y) (h3:y.k=3):y.x.size≤5000∧y.m=0∧y.r=0:=by
 rcases hy.ok with q | q | q | q
 ·have:=q.1;omega
 ·rcases q.1 with q | q <;> omega
 ·exact ⟨by have:=q.2.2.2;omega,q.2.1,q.2.2.1⟩
 ·have:=q.1;omega
theorem v8_3 {y:Gv} (h3:y.k=3):v8 y = [3] ++ vb y.x.size ++ y.x.data.toList:=by unfold v8;rw [if_neg (by omega),if_neg (by omega),if_pos h3]
theorem wr64_rg (s:Int) : -9223372036854775808≤wrap64 s∧wrap64 s≤9223372036854775807:=by unfold wrap64;omega
theorem RD.lt {b:Nat} {a:Addr} {c:Nat} {M:List UInt8} {k:Nat} {bad:Bool} {W:World} (h:RD b a c M k bad W):M = []∨a.block < W.heap.size:=by
 cases hM:M with
 | nil=>exact .inl rfl
 | cons x r =>
  have q:=h.row 0 x (by rw [hM];rfl)
  have e0:a.add 0=a:=by unfold Addr.add;rw [if_pos rfl]
  rw [e0] at q
  exact .inr (by
   unfold World.cell? at q
   cases e:W.heap[a.block]? with
   | none=>simp [e] at q
   | some o=>exact (Array.getElem?_eq_some_iff.1 e).1)
theorem rd_val {b : Nat} {a : Addr} {c : Nat} {M : List UInt8} {k : Nat} {bad : Bool} {W : World} (h : RD b a c M k bad W) :
    Calls Try.prog 37 #[.pointer (some ⟨b,0,none⟩)] W (RV8 b a c M k bad W):=by
  obtain ⟨w1,hw1⟩:∃ w1,w1=W.alloc (.cells #[.int .i64 0,.int .i64 0,.string ⟨#[]⟩,.int .i64 0] 41):=⟨_,rfl⟩
  have k1:Kb 0 W w1:=by rw [hw1];exact kb_alloc _ _ _
  have z1:w1.heap.size=W.heap.size+1:=by rw [hw1,World.size_alloc]
  have b1:w1.heap[W.heap.size]? = some (.cells #[.int .i64 0,.int .i64 0,.string ⟨#[]⟩,.int .i64 0] 41 (0,0)):=by rw [hw1];exact alloc_new _ _ _
  have hbl:b < W.heap.size:=(Array.getElem?_eq_some_iff.1 h.blk).1
  have hla:=h.lt
  have HB:=rd_byte (h.kb k1)
  have HW1:Hid (w1=W.alloc (.cells #[.int .i64 0,.int .i64 0,.string ⟨#[]⟩,.int .i64 0] 41)):=hw1
  have HH:Hid (Kb 0 W w1∧w1.heap.size=W.heap.size+1∧w1.heap[W.heap.size]? = some (.cells #[.int .i64 0,.int .i64 0,.string ⟨#[]⟩,.int .i64 0] 41 (0,0))∧b < W.heap.size∧(M = []∨a.block < W.heap.size)):=(⟨k1,z1,b1,hbl,hla⟩:_∧_)
  clear h hw1 k1 z1 b1 hbl hla
  go_enter Try.func37,Try.ntmps37
  go_upto_region 1 with fail
  rw [← (show w1 = _ from HW1)]
  clear HW1
  go_wp2_with fail
  refine HB.mono ?_
  rintro e w2 ⟨v1,k1,bad1,rfl,y1,y2,y3,x,rfl,y4,y5,y6⟩
  clear HB
  obtain ⟨kb1,z1,b1,hbl,hla⟩:=(show Kb 0 W w1∧w1.heap.size=W.heap.size+1∧w1.heap[W.heap.size]? = some (.cells #[.int .i64 0,.int .i64 0,.string ⟨#[]⟩,.int .i64 0] 41 (0,0))∧b < W.heap.size∧(M = []∨a.block < W.heap.size) from HH)
  have z2:w2.heap.size=W.heap.size+1:=by rw [y3.size,z1]
  have b2:w2.heap[W.heap.size]? = some (.cells #[.int .i64 0,.int .i64 0,.string ⟨#[]⟩,.int .i64 0] 41 (0,0)):=(y3.block _ (by omega)).trans b1
  obtain ⟨w3,hw3⟩:∃ w3,w3=w2.alloc (.cells #[.int .i64 (x:Int),.int .i64 0,.string ⟨#[]⟩,.int .i64 0] 41):=⟨_,rfl⟩
  have kb3:Kb 0 w2 w3:=by rw [hw3];exact kb_alloc _ _ _
  have bS:w3.heap[W.heap.size]? = some (.cells #[.int .i64 0,.int .i64 0,.string ⟨#[]⟩,.int .i64 0] 41 (0,0)):=(kb3.block _ (Nat.zero_le _) (by omega)).trans b2
  have bV:w3.heap[W.heap.size+1]? = some (.cells #[.int .i64 (x:Int),.int .i64 0,.string ⟨#[]⟩,.int .i64 0] 41 (0,0)):=by rw [hw3,← z2];exact alloc_new _ _ _
  have rd3:RD b a c M k1 bad1 w3:=y1.kb kb3
  have kg3:Kg b W w3:=((Kg.of_kb kb1).trans y3.kg).trans (Kg.of_kb kb3)
  have z3:w3.heap.size=W.heap.size+2:=by rw [hw3,World.size_alloc,z2]
  have HW3:Hid (w3=w2.alloc (.cells #[.int .i64 (x:Int),.int .i64 0,.string ⟨#[]⟩,.int .i64 0] 41)∧w2.heap.size=W.heap.size+1):=(⟨hw3,z2⟩:_∧_)
  have hxk:∀ (y:Gv) rest,Wv y→M.drop k=v8 y ++ rest→(x:Int)=y.k∧k1=k+1∧bad1=bad:=fun y rest hy hm=>by
    obtain ⟨t,et,hk⟩:=v8_head y hy
    rw [et] at hm
    obtain ⟨q1,q2⟩:=drop_cons hm
    obtain ⟨r1,r2,r3⟩:=y6 _ q1
    refine ⟨?_,r2,r3⟩
    rw [r1,tn (by omega)]
    omega
  have c0:w3.cell? ⟨W.heap.size+1,0,none⟩=some (.int .i64 (x:Int)):=cell_of bV rfl
  have hxI:(x:Int) < 256:=by omega
  have HST:Hid (RD b a c M k1 bad1 w3∧Kg b W w3∧w3.heap[W.heap.size]? = some (.cells #[.int .i64 0,.int .i64 0,.string ⟨#[]⟩,.int .i64 0] 41 (0,0))∧w3.heap[W.heap.size+1]? = some (.cells #[.int .i64 (x:Int),.int .i64 0,.string ⟨#[]⟩,.int .i64 0] 41 (0,0))∧w3.heap.size=W.heap.size+2∧b < W.heap.size∧(M = []∨a.block < W.heap.size)∧k≤k1∧(k1=k∨bad=true→bad1=true)∧∀ (y:Gv) rest,Wv y→M.drop k=v8 y ++ rest→(x:Int)=y.k∧k1=k+1∧bad1=bad):=(⟨rd3,kg3,bS,bV,z3,hbl,hla,y2,y5,hxk⟩:_∧_)
  clear y1 y2 y3 y4 y5 y6 kb1 z1 b1 hbl hla z2 b2 hw3 kb3 bS bV rd3 kg3 z3 hxk HH
  go_upto_region 2 with fail
  rw [(show _∧w2.heap.size = _ from HW3).2]
  rw [← (show w3 = _∧_ from HW3).1]
  clear HW3
  by_cases h4:x=4
  case pos =>
    obtain ⟨rd3,kg3,bS3,bV3,z3,hbl,hla,y2,y5,hxk⟩:=(show RD b a c M k1 bad1 w3∧Kg b W w3∧w3.heap[W.heap.size]? = some (.cells #[.int .i64 0,.int .i64 0,.string ⟨#[]⟩,.int .i64 0] 41 (0,0))∧w3.heap[W.heap.size+1]? = some (.cells #[.int .i64 (x:Int),.int .i64 0,.string ⟨#[]⟩,.int .i64 0] 41 (0,0))∧w3.heap.size=W.heap.size+2∧b < W.heap.size∧(M = []∨a.block < W.heap.size)∧k≤k1∧(k1=k∨bad=true→bad1=true)∧∀ (y:Gv) rest,Wv y→M.drop k=v8 y ++ rest→(x:Int)=y.k∧k1=k+1∧bad1=bad from HST)
    obtain rfl:x=4:=by omega
    have h1:((4:Int) == 1)=false:=rfl
    have h2:((4:Int) == 2)=false:=rfl
    have h3:((4:Int) == 3)=false:=rfl
    have h4:((4:Int) == 4)=true:=rfl
    have HSM:=rd_small rd3
    clear rd3 kg3 bS3 bV3 z3 hbl hla y2 y5 hxk
    go_wp2_with fail
    refine HSM.mono ?_
    rintro e w4 ⟨v4,kz,bz,rfl,rz4,u2,u3,r,rfl,u4,u5,u6⟩
    clear HSM
    obtain ⟨rd3,kg3,bS3,bV3,z3,hbl,hla,y2,y5,hxk⟩:=(show RD b a c M k1 bad1 w3∧Kg b W w3∧w3.heap[W.heap.size]? = some (.cells #[.int .i64 0,.int .i64 0,.string ⟨#[]⟩,.int .i64 0] 41 (0,0))∧w3.heap[W.heap.size+1]? = some (.cells #[.int .i64 ((4:Nat):Int),.int .i64 0,.string ⟨#[]⟩,.int .i64 0] 41 (0,0))∧w3.heap.size=W.heap.size+2∧b < W.heap.size∧(M = []∨a.block < W.heap.size)∧k≤k1∧(k1=k∨bad=true→bad1=true)∧∀ (y:Gv) rest,Wv y→M.drop k=v8 y ++ rest→((4:Nat):Int)=y.k∧k1=k+1∧bad1=bad from HST)
    have bS4:w4.heap[W.heap.size]? = some (.cells #[.int .i64 0,.int .i64 0,.string ⟨#[]⟩,.int .i64 0] 41 (0,0)):=(u3.block _ (by omega)).trans bS3
    have bV4:w4.heap[W.heap.size+1]? = some (.cells #[.int .i64 ((4:Nat):Int),.int .i64 0,.string ⟨#[]⟩,.int .i64 0] 41 (0,0)):=(u3.block _ (by omega)).trans bV3
    have s3:w4.cell? ⟨W.heap.size+1,3,none⟩=some (.int .i64 0):=cell_of bV4 rfl
    have sz:∀ j,w4.frozen? ⟨W.heap.size+1,j,none⟩=false:=fun j=>frozen_of bV4
    obtain ⟨w5,hw5⟩:∃ w5,w5=w4.setCell ⟨W.heap.size+1,3,none⟩ (.int .i64 (r:Int)):=⟨_,rfl⟩
    have bV:w5.heap[W.heap.size+1]? = some (.cells #[.int .i64 4,.int .i64 0,.string ⟨#[]⟩,.int .i64 (r:Int)] 41 (0,0)):=by rw [hw5,set_known _ bV4];rfl
    have hf5:∀ q,q ≠ W.heap.size+1→w5.heap[q]? = w4.heap[q]?:=fun q hq=>by rw [hw5];exact Below.heap_setCell _ _ _ _ hq
    have bS:w5.heap[W.heap.size]? = some (.cells #[.int .i64 0,.int .i64 0,.string ⟨#[]⟩,.int .i64 0] 41 (0,0)):=(hf5 _ (by omega)).trans bS4
    have rz:RD b a c M kz bz w5:=rz4.far hf5 (by omega) (hla.imp id (fun q=>by omega))
    have kz1:Kg b W w5:=by
      have kk:=kg3.trans u3.kg
      exact ⟨by rw [hw5];exact kk.os,by rw [hw5];exact kk.output,by rw [hw5,World.size_setCell];exact kk.size,fun q h1 h2=>(hf5 q (by omega)).trans (kk.block q h1 h2)⟩
    have hkz:k≤kz:=by omega
    obtain ⟨WF,hWF⟩:∃ WF,WF=s4 w5 W.heap.size (4:Int) (0:Int) ⟨#[]⟩ (r:Int):=⟨_,rfl⟩
    have q0:w5.cell? ⟨W.heap.size,0,none⟩=some (.int .i64 0):=cell_of bS rfl
    have q1:w5.cell? ⟨W.heap.size,1,none⟩=some (.int .i64 0):=cell_of bS rfl
    have q2:w5.cell? ⟨W.heap.size,2,none⟩=some (.string ⟨#[]⟩):=cell_of bS rfl
    have q3:w5.cell? ⟨W.heap.size,3,none⟩=some (.int .i64 0):=cell_of bS rfl
    have qz:∀ j,w5.frozen? ⟨W.heap.size,j,none⟩=false:=fun j=>frozen_of bS
    have d0:w5.cell? ⟨W.heap.size+1,0,none⟩=some (.int .i64 (4:Int)):=cell_of bV rfl
    have d1:w5.cell? ⟨W.heap.size+1,1,none⟩=some (.int .i64 (0:Int)):=cell_of bV rfl
    have d2:w5.cell? ⟨W.heap.size+1,2,none⟩=some (.string ⟨#[]⟩):=cell_of bV rfl
    have d3:w5.cell? ⟨W.heap.size+1,3,none⟩=some (.int .i64 (r:Int)):=cell_of bV rfl
    obtain ⟨e0,e1,e2,e3⟩:=s4_cells (B:=W.heap.size) q0 q1 q2 q3 ((4:Int)) ((0:Int)) (⟨#[]⟩) ((r:Int))
    rw [← hWF] at e0 e1 e2 e3
    have hRF:RD b a c M kz bz WF:=by rw [hWF];exact rz.far (g:=W.heap.size) (fun q hq=>s4_far _ _ _ _ _ hq) (by omega) (hla.imp id (fun q=>by omega))
    have hKF:Kg b W WF:=by
      rw [hWF]
      exact ⟨kz1.os,kz1.output,by rw [s4_size];exact kz1.size,fun q h1 h2=>(s4_far _ _ _ _ _ (by omega)).trans (kz1.block q h1 h2)⟩
    have HFIN : Hid (RV8 b a c M k bad W (.returned (.agg #[.int .i64 ((4 : Int)), .int .i64 ((0 : Int)), .string (⟨#[]⟩), .int .i64 ((r : Int))])) WF) := (⟨⟨(4 : Int), (0 : Int), ⟨#[]⟩, (r : Int)⟩, kz, bz, rfl, hRF, hkz, hKF, ⟨by show _ ≤ (0 : Int); omega, by show (0 : Int) ≤ _; omega, by show (0 : Nat) ≤ _; omega⟩, fun e => u5 (e.imp (fun e => by omega) (fun e => y5 (.inr e))), fun y rest hy hm => by
          obtain ⟨r1,r2,r3⟩:=hxk y rest hy hm
          have hy4:y.k=4:=by have:((4:Nat):Int)=4:=rfl;omega
          have hyr:y.m=0∧y.x=⟨#[]⟩∧0≤y.r∧y.r < 5001:=by
            rcases hy.ok with q | q | q | q
            · have:=q.1;omega
            · rcases q.1 with q | q <;> omega
            · have:=q.1;omega
            · exact ⟨q.2.1,q.2.2.1,q.2.2.2.1,by have:=q.2.2.2.2;omega⟩
          have e8:v8 y = [4] ++ vb y.r.toNat:=by unfold v8;rw [if_neg (by omega),if_neg (by omega),if_neg (by omega),if_pos hy4]
          rw [e8,List.append_assoc] at hm
          obtain ⟨_,q2⟩:=drop_cons hm
          obtain ⟨t1,t2,t3⟩:=u6 y.r.toNat rest (by omega) (by rw [r2];exact q2)
          refine ⟨?_,by rw [e8,t2,r2,List.length_append];simp;omega,by rw [t3,r3]⟩
          obtain ⟨yk,ym,yx,yr⟩:=y
          dsimp only at hy4 hyr t1
          obtain ⟨g1,g2,g3,g4⟩:=hyr
          subst hy4 g1 g2
          rw [show (r:Int)=yr by omega]⟩:RV8 b a c M k bad W _ WF)
    unfold s4 at hWF
    have HWF:Hid (WF = _):=hWF
    have HW5:Hid (w5 = _):=hw5
    clear rz kz1 bS bV hkz hRF hKF hWF hw5 bS4 bV4 hf5 rz4 u2 u3 u4 u5 u6 rd3 kg3 bS3 bV3 z3 hbl hla y2 y5 hxk
    clear HST
    go_upto_region 19 with fail
    rw [← (show w5 = _ from HW5)]
    clear HW5 s3 sz
    go_wp2_with fail
    rw [← (show WF = _ from HWF)]
    clear HWF
    refine bodyPost_ret (by simp [results,Try.results37,go_sem,e0,e1,e2,e3];rfl) rfl ?_
    exact HFIN
  by_cases h1:x=1
  case pos =>
    obtain ⟨rd3,kg3,bS3,bV3,z3,hbl,hla,y2,y5,hxk⟩:=(show RD b a c M k1 bad1 w3∧Kg b W w3∧w3.heap[W.heap.size]? = some (.cells #[.int .i64 0,.int .i64 0,.string ⟨#[]⟩,.int .i64 0] 41 (0,0))∧w3.heap[W.heap.size+1]? = some (.cells #[.int .i64 (x:Int),.int .i64 0,.string ⟨#[]⟩,.int .i64 0] 41 (0,0))∧w3.heap.size=W.heap.size+2∧b < W.heap.size∧(M = []∨a.block < W.heap.size)∧k≤k1∧(k1=k∨bad=true→bad1=true)∧∀ (y:Gv) rest,Wv y→M.drop k=v8 y ++ rest→(x:Int)=y.k∧k1=k+1∧bad1=bad from HST)
    obtain rfl:x=1:=by omega
    have h1':((1:Int) == 1)=true:=rfl
    have HSM:=rd_num rd3
    clear rd3 kg3 bS3 bV3 z3 hbl hla y2 y5 hxk
    go_wp2_with fail
    refine HSM.mono ?_
    rintro e w4 ⟨v4,kz,bz,rfl,rz4,u2,u3,r,rfl,u4,u5,u6⟩
    clear HSM
    obtain ⟨rd3,kg3,bS3,bV3,z3,hbl,hla,y2,y5,hxk⟩:=(show RD b a c M k1 bad1 w3∧Kg b W w3∧w3.heap[W.heap.size]? = some (.cells #[.int .i64 0,.int .i64 0,.string ⟨#[]⟩,.int .i64 0] 41 (0,0))∧w3.heap[W.heap.size+1]? = some (.cells #[.int .i64 ((1:Nat):Int),.int .i64 0,.string ⟨#[]⟩,.int .i64 0] 41 (0,0))∧w3.heap.size=W.heap.size+2∧b < W.heap.size∧(M = []∨a.block < W.heap.size)∧k≤k1∧(k1=k∨bad=true→bad1=true)∧∀ (y:Gv) rest,Wv y→M.drop k=v8 y ++ rest→((1:Nat):Int)=y.k∧k1=k+1∧bad1=bad from HST)
    have bS4:w4.heap[W.heap.size]? = some (.cells #[.int .i64 0,.int .i64 0,.string ⟨#[]⟩,.int .i64 0] 41 (0,0)):=(u3.block _ (by omega)).trans bS3
    have bV4:w4.heap[W.heap.size+1]? = some (.cells #[.int .i64 ((1:Nat):Int),.int .i64 0,.string ⟨#[]⟩,.int .i64 0] 41 (0,0)):=(u3.block _ (by omega)).trans bV3
    have s3:w4.cell? ⟨W.heap.size+1,1,none⟩=some (.int .i64 0):=cell_of bV4 rfl
    have sz:∀ j,w4.frozen? ⟨W.heap.size+1,j,none⟩=false:=fun j=>frozen_of bV4
    obtain ⟨H,hH⟩:∃ H:Int,H=((r / 2:Nat):Int):=⟨_,rfl⟩
    have hdv:Int.tdiv (r:Int) 2=H:=by rw [Int.tdiv_eq_ediv_of_nonneg (by omega)];omega
    have hdv2:(r:Int) / 2=H:=by omega
    have hcv:wrap64 H=H:=by unfold wrap64;omega
    have hwu:IntKind.u64.wrap H=H:=by rw [wrap_u64];omega
    obtain ⟨Q,hQ⟩:∃ Q:Int,Q=((r % 2:Nat):Int):=⟨_,rfl⟩
    have hmd:Int.tmod (r:Int) 2=Q:=by rw [Int.tmod_eq_emod_of_nonneg (by omega)];omega
    have hmd2:(r:Int) % 2=Q:=by omega
    rcases Nat.mod_two_eq_zero_or_one r with hpar | hpar
    · obtain rfl:Q=0:=by omega
      obtain ⟨mm,hmm⟩:∃ mm:Int,mm=H:=⟨_,rfl⟩
      have hmu:mm=usg r:=by rw [hmm,hH];unfold usg;rw [if_neg (by omega)] <;> try omega
      have hmr : -9223372036854775808≤mm∧mm≤9223372036854775807:=by rw [hmu];exact usg_rg u4
      obtain ⟨w5,hw5⟩:∃ w5,w5=w4.setCell ⟨W.heap.size+1,1,none⟩ (.int .i64 mm):=⟨_,rfl⟩
      have bV:w5.heap[W.heap.size+1]? = some (.cells #[.int .i64 1,.int .i64 mm,.string ⟨#[]⟩,.int .i64 0] 41 (0,0)):=by rw [hw5,set_known _ bV4];rfl
      have hf5:∀ q,q ≠ W.heap.size+1→w5.heap[q]? = w4.heap[q]?:=fun q hq=>by rw [hw5];exact Below.heap_setCell _ _ _ _ hq
      have bS:w5.heap[W.heap.size]? = some (.cells #[.int .i64 0,.int .i64 0,.string ⟨#[]⟩,.int .i64 0] 41 (0,0)):=(hf5 _ (by omega)).trans bS4
      have rz:RD b a c M kz bz w5:=rz4.far hf5 (by omega) (hla.imp id (fun q=>by omega))
      have kz1:Kg b W w5:=by
        have kk:=kg3.trans u3.kg
        exact ⟨by rw [hw5];exact kk.os,by rw [hw5];exact kk.output,by rw [hw5];rw [World.size_setCell];exact kk.size,fun q h1 h2=>(hf5 q (by omega)).trans (kk.block q h1 h2)⟩
      have hkz:k≤kz:=by omega
      obtain ⟨WF,hWF⟩:∃ WF,WF=s4 w5 W.heap.size (1:Int) mm ⟨#[]⟩ (0:Int):=⟨_,rfl⟩
      have q0:w5.cell? ⟨W.heap.size,0,none⟩=some (.int .i64 0):=cell_of bS rfl
      have q1:w5.cell? ⟨W.heap.size,1,none⟩=some (.int .i64 0):=cell_of bS rfl
      have q2:w5.cell? ⟨W.heap.size,2,none⟩=some (.string ⟨#[]⟩):=cell_of bS rfl
      have q3:w5.cell? ⟨W.heap.size,3,none⟩=some (.int .i64 0):=cell_of bS rfl
      have qz:∀ j,w5.frozen? ⟨W.heap.size,j,none⟩=false:=fun j=>frozen_of bS
      have d0:w5.cell? ⟨W.heap.size+1,0,none⟩=some (.int .i64 (1:Int)):=cell_of bV rfl
      have d1:w5.cell? ⟨W.heap.size+1,1,none⟩=some (.int .i64 mm):=cell_of bV rfl
      have d2:w5.cell? ⟨W.heap.size+1,2,none⟩=some (.string ⟨#[]⟩):=cell_of bV rfl
      have d3:w5.cell? ⟨W.heap.size+1,3,none⟩=some (.int .i64 (0:Int)):=cell_of bV rfl
      obtain ⟨e0,e1,e2,e3⟩:=s4_cells (B:=W.heap.size) q0 q1 q2 q3 ((1:Int)) (mm) (⟨#[]⟩) ((0:Int))
      rw [← hWF] at e0 e1 e2 e3
      have hRF:RD b a c M kz bz WF:=by rw [hWF];exact rz.far (g:=W.heap.size) (fun q hq=>s4_far _ _ _ _ _ hq) (by omega) (hla.imp id (fun q=>by omega))
      have hKF:Kg b W WF:=by
        rw [hWF]
        exact ⟨kz1.os,kz1.output,by rw [s4_size];exact kz1.size,fun q h1 h2=>(s4_far _ _ _ _ _ (by omega)).trans (kz1.block q h1 h2)⟩
      have HFIN : Hid (RV8 b a c M k bad W (.returned (.agg #[.int .i64 ((1 : Int)), .int .i64 (mm), .string (⟨#[]⟩), .int .i64 ((0 : Int))])) WF) := (⟨⟨(1 : Int), mm, ⟨#[]⟩, (0 : Int)⟩, kz, bz, rfl, hRF, hkz, hKF, ⟨hmr.1, hmr.2, by show (0 : Nat) ≤ _; omega⟩, fun e => u5 (e.imp (fun e => by omega) (fun e => y5 (.inr e))), fun y rest hy hm => by
            obtain ⟨r1,r2,r3⟩:=hxk y rest hy hm
            have hy2:y.k=1:=by have:((1:Nat):Int)=1:=rfl;omega
            have hyr:y.x=⟨#[]⟩∧y.r=0:=by
              rcases hy.ok with q | q | q | q
              · have:=q.1;omega
              · exact ⟨q.2.1,q.2.2⟩
              · have:=q.1;omega
              · have:=q.1;omega
            have e8:v8 y = [1] ++ vb (sgn y.m):=by unfold v8;rw [if_pos hy2]
            rw [e8,List.append_assoc] at hm
            obtain ⟨_,q2⟩:=drop_cons hm
            obtain ⟨t1,t2,t3⟩:=u6 (sgn y.m) rest (sgn_lt hy.m0 hy.m1) (by rw [r2];exact q2)
            refine ⟨?_,by rw [e8,t2,r2,List.length_append];simp;omega,by rw [t3,r3]⟩
            have hmy:mm=y.m:=by rw [hmu,t1,usg_sgn]
            obtain ⟨yk,ym,yx,yr⟩:=y
            dsimp only at hy2 hyr hmy
            obtain ⟨g1,g2⟩:=hyr
            subst hy2 g1 g2 hmy
            rfl⟩:RV8 b a c M k bad W _ WF)
      unfold s4 at hWF
      have HWF:Hid (WF = _):=hWF
      have HW5:Hid (w5=w4.setCell ⟨W.heap.size+1,1,none⟩ (.int .i64 H)):=(by rw [hw5,hmm]:w5 = _)
      clear rz kz1 bS bV hkz hRF hKF hWF hw5 bS4 bV4 hf5 rz4 u2 u3 u4 u5 u6 hmu hmr rd3 kg3 bS3 bV3 z3 hbl hla y2 y5 hxk
      clear HST hH hmm hQ
      go_upto_region 19 with fail
      rw [← (show w5 = _ from HW5)]
      clear HW5 s3 sz
      go_wp2_with fail
      rw [← (show WF = _ from HWF)]
      clear HWF
      refine bodyPost_ret (by simp [results,Try.results37,go_sem,e0,e1,e2,e3];rfl) rfl ?_
      exact HFIN
    · obtain rfl:Q=1:=by omega
      obtain ⟨mm,hmm⟩:∃ mm:Int,mm = -H - 1:=⟨_,rfl⟩
      have hng:wrap64 (-H) = -H:=by unfold wrap64;omega
      have hng2:wrap64 (-H - 1)=mm:=by rw [hmm];unfold wrap64;omega
      have hmu:mm=usg r:=by rw [hmm,hH];unfold usg;rw [if_pos hpar] <;> try omega
      have hmr : -9223372036854775808≤mm∧mm≤9223372036854775807:=by rw [hmu];exact usg_rg u4
      obtain ⟨w5,hw5⟩:∃ w5,w5=(w4.setCell ⟨W.heap.size+1,1,none⟩ (.int .i64 H)).setCell ⟨W.heap.size+1,1,none⟩ (.int .i64 mm):=⟨_,rfl⟩
      have bV:w5.heap[W.heap.size+1]? = some (.cells #[.int .i64 1,.int .i64 mm,.string ⟨#[]⟩,.int .i64 0] 41 (0,0)):=by rw [hw5,set_known _ (set_known _ bV4)];rfl
      have hf5:∀ q,q ≠ W.heap.size+1→w5.heap[q]? = w4.heap[q]?:=fun q hq=>by rw [hw5];rw [Below.heap_setCell _ _ _ _ hq,Below.heap_setCell _ _ _ _ hq]
      have bS:w5.heap[W.heap.size]? = some (.cells #[.int .i64 0,.int .i64 0,.string ⟨#[]⟩,.int .i64 0] 41 (0,0)):=(hf5 _ (by omega)).trans bS4
      have rz:RD b a c M kz bz w5:=rz4.far hf5 (by omega) (hla.imp id (fun q=>by omega))
      have kz1:Kg b W w5:=by
        have kk:=kg3.trans u3.kg
        exact ⟨by rw [hw5];exact kk.os,by rw [hw5];exact kk.output,by rw [hw5];rw [World.size_setCell,World.size_setCell];exact kk.size,fun q h1 h2=>(hf5 q (by omega)).trans (kk.block q h1 h2)⟩
      have hkz:k≤kz:=by omega
      obtain ⟨WF,hWF⟩:∃ WF,WF=s4 w5 W.heap.size (1:Int) mm ⟨#[]⟩ (0:Int):=⟨_,rfl⟩
      have q0:w5.cell? ⟨W.heap.size,0,none⟩=some (.int .i64 0):=cell_of bS rfl
      have q1:w5.cell? ⟨W.heap.size,1,none⟩=some (.int .i64 0):=cell_of bS rfl
      have q2:w5.cell? ⟨W.heap.size,2,none⟩=some (.string ⟨#[]⟩):=cell_of bS rfl
      have q3:w5.cell? ⟨W.heap.size,3,none⟩=some (.int .i64 0):=cell_of bS rfl
      have qz:∀ j,w5.frozen? ⟨W.heap.size,j,none⟩=false:=fun j=>frozen_of bS
      have d0:w5.cell? ⟨W.heap.size+1,0,none⟩=some (.int .i64 (1:Int)):=cell_of bV rfl
      have d1:w5.cell? ⟨W.heap.size+1,1,none⟩=some (.int .i64 mm):=cell_of bV rfl
      have d2:w5.cell? ⟨W.heap.size+1,2,none⟩=some (.string ⟨#[]⟩):=cell_of bV rfl
      have d3:w5.cell? ⟨W.heap.size+1,3,none⟩=some (.int .i64 (0:Int)):=cell_of bV rfl
      obtain ⟨e0,e1,e2,e3⟩:=s4_cells (B:=W.heap.size) q0 q1 q2 q3 ((1:Int)) (mm) (⟨#[]⟩) ((0:Int))
      rw [← hWF] at e0 e1 e2 e3
      have hRF:RD b a c M kz bz WF:=by rw [hWF];exact rz.far (g:=W.heap.size) (fun q hq=>s4_far _ _ _ _ _ hq) (by omega) (hla.imp id (fun q=>by omega))
      have hKF:Kg b W WF:=by
        rw [hWF]
        exact ⟨kz1.os,kz1.output,by rw [s4_size];exact kz1.size,fun q h1 h2=>(s4_far _ _ _ _ _ (by omega)).trans (kz1.block q h1 h2)⟩
      have HFIN : Hid (RV8 b a c M k bad W (.returned (.agg #[.int .i64 ((1 : Int)), .int .i64 (mm), .string (⟨#[]⟩), .int .i64 ((0 : Int))])) WF) := (⟨⟨(1 : Int), mm, ⟨#[]⟩, (0 : Int)⟩, kz, bz, rfl, hRF, hkz, hKF, ⟨hmr.1, hmr.2, by show (0 : Nat) ≤ _; omega⟩, fun e => u5 (e.imp (fun e => by omega) (fun e => y5 (.inr e))), fun y rest hy hm => by
            obtain ⟨r1,r2,r3⟩:=hxk y rest hy hm
            have hy2:y.k=1:=by have:((1:Nat):Int)=1:=rfl;omega
            have hyr:y.x=⟨#[]⟩∧y.r=0:=by
              rcases hy.ok with q | q | q | q
              · have:=q.1;omega
              · exact ⟨q.2.1,q.2.2⟩
              · have:=q.1;omega
              · have:=q.1;omega
            have e8:v8 y = [1] ++ vb (sgn y.m):=by unfold v8;rw [if_pos hy2]
            rw [e8,List.append_assoc] at hm
            obtain ⟨_,q2⟩:=drop_cons hm
            obtain ⟨t1,t2,t3⟩:=u6 (sgn y.m) rest (sgn_lt hy.m0 hy.m1) (by rw [r2];exact q2)
            refine ⟨?_,by rw [e8,t2,r2,List.length_append];simp;omega,by rw [t3,r3]⟩
            have hmy:mm=y.m:=by rw [hmu,t1,usg_sgn]
            obtain ⟨yk,ym,yx,yr⟩:=y
            dsimp only at hy2 hyr hmy
            obtain ⟨g1,g2⟩:=hyr
            subst hy2 g1 g2 hmy
            rfl⟩:RV8 b a c M k bad W _ WF)
      unfold s4 at hWF
      have HWF:Hid (WF = _):=hWF
      have HW5:Hid (w5 = _):=hw5
      clear rz kz1 bS bV hkz hRF hKF hWF hw5 bS4 bV4 hf5 rz4 u2 u3 u4 u5 u6 hmu hmr rd3 kg3 bS3 bV3 z3 hbl hla y2 y5 hxk
      clear HST hH hmm hQ
      have s3b:(w4.setCell ⟨W.heap.size+1,1,none⟩ (.int .i64 H)).cell? ⟨W.heap.size+1,1,none⟩=some (.int .i64 H):=set_eq _ _ _ _ _ s3
      have szb:∀ j,(w4.setCell ⟨W.heap.size+1,1,none⟩ (.int .i64 H)).frozen? ⟨W.heap.size+1,j,none⟩=false:=fun j=>(set_fz _ _ _ _ _).trans (sz j)
      go_upto_region 19 with fail
      rw [← (show w5 = _ from HW5)]
      clear HW5 s3 sz s3b szb
      go_wp2_with fail
      rw [← (show WF = _ from HWF)]
      clear HWF
      refine bodyPost_ret (by simp [results,Try.results37,go_sem,e0,e1,e2,e3];rfl) rfl ?_
      exact HFIN
  by_cases h2:x=2
  case pos =>
    obtain ⟨rd3,kg3,bS3,bV3,z3,hbl,hla,y2,y5,hxk⟩:=(show RD b a c M k1 bad1 w3∧Kg b W w3∧w3.heap[W.heap.size]? = some (.cells #[.int .i64 0,.int .i64 0,.string ⟨#[]⟩,.int .i64 0] 41 (0,0))∧w3.heap[W.heap.size+1]? = some (.cells #[.int .i64 (x:Int),.int .i64 0,.string ⟨#[]⟩,.int .i64 0] 41 (0,0))∧w3.heap.size=W.heap.size+2∧b < W.heap.size∧(M = []∨a.block < W.heap.size)∧k≤k1∧(k1=k∨bad=true→bad1=true)∧∀ (y:Gv) rest,Wv y→M.drop k=v8 y ++ rest→(x:Int)=y.k∧k1=k+1∧bad1=bad from HST)
    obtain rfl:x=2:=by omega
    have h1:((2:Int) == 1)=false:=rfl
    have h2:((2:Int) == 2)=true:=rfl
    have HSM:=rd_eight rd3
    clear rd3 kg3 bS3 bV3 z3 hbl hla y2 y5 hxk
    go_wp2_with fail
    refine HSM.mono ?_
    rintro e w4 ⟨v4,kz,bz,rfl,rz4,u2,u3,r,rfl,u4,u5,u6⟩
    clear HSM
    obtain ⟨rd3,kg3,bS3,bV3,z3,hbl,hla,y2,y5,hxk⟩:=(show RD b a c M k1 bad1 w3∧Kg b W w3∧w3.heap[W.heap.size]? = some (.cells #[.int .i64 0,.int .i64 0,.string ⟨#[]⟩,.int .i64 0] 41 (0,0))∧w3.heap[W.heap.size+1]? = some (.cells #[.int .i64 ((2:Nat):Int),.int .i64 0,.string ⟨#[]⟩,.int .i64 0] 41 (0,0))∧w3.heap.size=W.heap.size+2∧b < W.heap.size∧(M = []∨a.block < W.heap.size)∧k≤k1∧(k1=k∨bad=true→bad1=true)∧∀ (y:Gv) rest,Wv y→M.drop k=v8 y ++ rest→((2:Nat):Int)=y.k∧k1=k+1∧bad1=bad from HST)
    have bS4:w4.heap[W.heap.size]? = some (.cells #[.int .i64 0,.int .i64 0,.string ⟨#[]⟩,.int .i64 0] 41 (0,0)):=(u3.block _ (by omega)).trans bS3
    have bV4:w4.heap[W.heap.size+1]? = some (.cells #[.int .i64 ((2:Nat):Int),.int .i64 0,.string ⟨#[]⟩,.int .i64 0] 41 (0,0)):=(u3.block _ (by omega)).trans bV3
    have s3:w4.cell? ⟨W.heap.size+1,1,none⟩=some (.int .i64 0):=cell_of bV4 rfl
    have sz:∀ j,w4.frozen? ⟨W.heap.size+1,j,none⟩=false:=fun j=>frozen_of bV4
    obtain ⟨mm,hmm⟩:∃ mm:Int,mm=wrap64 (r:Int):=⟨_,rfl⟩
    have hcv:wrap64 (r:Int)=mm:=hmm.symm
    have hmr : -9223372036854775808≤mm∧mm≤9223372036854775807:=by rw [hmm];exact wr64_rg _
    obtain ⟨w5,hw5⟩:∃ w5,w5=w4.setCell ⟨W.heap.size+1,1,none⟩ (.int .i64 mm):=⟨_,rfl⟩
    have bV:w5.heap[W.heap.size+1]? = some (.cells #[.int .i64 2,.int .i64 mm,.string ⟨#[]⟩,.int .i64 0] 41 (0,0)):=by rw [hw5,set_known _ bV4];rfl
    have hf5:∀ q,q ≠ W.heap.size+1→w5.heap[q]? = w4.heap[q]?:=fun q hq=>by rw [hw5];exact Below.heap_setCell _ _ _ _ hq
    have bS:w5.heap[W.heap.size]? = some (.cells #[.int .i64 0,.int .i64 0,.string ⟨#[]⟩,.int .i64 0] 41 (0,0)):=(hf5 _ (by omega)).trans bS4
    have rz:RD b a c M kz bz w5:=rz4.far hf5 (by omega) (hla.imp id (fun q=>by omega))
    have kz1:Kg b W w5:=by
      have kk:=kg3.trans u3.kg
      exact ⟨by rw [hw5];exact kk.os,by rw [hw5];exact kk.output,by rw [hw5,World.size_setCell];exact kk.size,fun q h1 h2=>(hf5 q (by omega)).trans (kk.block q h1 h2)⟩
    have hkz:k≤kz:=by omega
    obtain ⟨WF,hWF⟩:∃ WF,WF=s4 w5 W.heap.size (2:Int) mm ⟨#[]⟩ (0:Int):=⟨_,rfl⟩
    have q0:w5.cell? ⟨W.heap.size,0,none⟩=some (.int .i64 0):=cell_of bS rfl
    have q1:w5.cell? ⟨W.heap.size,1,none⟩=some (.int .i64 0):=cell_of bS rfl
    have q2:w5.cell? ⟨W.heap.size,2,none⟩=some (.string ⟨#[]⟩):=cell_of bS rfl
    have q3:w5.cell? ⟨W.heap.size,3,none⟩=some (.int .i64 0):=cell_of bS rfl
    have qz:∀ j,w5.frozen? ⟨W.heap.size,j,none⟩=false:=fun j=>frozen_of bS
    have d0:w5.cell? ⟨W.heap.size+1,0,none⟩=some (.int .i64 (2:Int)):=cell_of bV rfl
    have d1:w5.cell? ⟨W.heap.size+1,1,none⟩=some (.int .i64 mm):=cell_of bV rfl
    have d2:w5.cell? ⟨W.heap.size+1,2,none⟩=some (.string ⟨#[]⟩):=cell_of bV rfl
    have d3:w5.cell? ⟨W.heap.size+1,3,none⟩=some (.int .i64 (0:Int)):=cell_of bV rfl
    obtain ⟨e0,e1,e2,e3⟩:=s4_cells (B:=W.heap.size) q0 q1 q2 q3 ((2:Int)) (mm) (⟨#[]⟩) ((0:Int))
    rw [← hWF] at e0 e1 e2 e3
    have hRF:RD b a c M kz bz WF:=by rw [hWF];exact rz.far (g:=W.heap.size) (fun q hq=>s4_far _ _ _ _ _ hq) (by omega) (hla.imp id (fun q=>by omega))
    have hKF:Kg b W WF:=by
      rw [hWF]
      exact ⟨kz1.os,kz1.output,by rw [s4_size];exact kz1.size,fun q h1 h2=>(s4_far _ _ _ _ _ (by omega)).trans (kz1.block q h1 h2)⟩
    have HFIN : Hid (RV8 b a c M k bad W (.returned (.agg #[.int .i64 ((2 : Int)), .int .i64 (mm), .string (⟨#[]⟩), .int .i64 ((0 : Int))])) WF) := (⟨⟨(2 : Int), mm, ⟨#[]⟩, (0 : Int)⟩, kz, bz, rfl, hRF, hkz, hKF, ⟨hmr.1, hmr.2, by show (0 : Nat) ≤ _; omega⟩, fun e => u5 (y5 (e.imp (fun e => by omega) id)), fun y rest hy hm => by
          obtain ⟨r1,r2,r3⟩:=hxk y rest hy hm
          have hy2:y.k=2:=by have:((2:Nat):Int)=2:=rfl;omega
          have hyr:y.x=⟨#[]⟩∧y.r=0:=by
            rcases hy.ok with q | q | q | q
            · have:=q.1;omega
            · exact ⟨q.2.1,q.2.2⟩
            · have:=q.1;omega
            · have:=q.1;omega
          have e8:v8 y = [2] ++ Fo.e8 (y.m % 18446744073709551616).toNat 8:=by unfold v8;rw [if_neg (by omega),if_pos hy2]
          rw [e8,List.append_assoc] at hm
          obtain ⟨_,q2⟩:=drop_cons hm
          obtain ⟨t1,t2,t3⟩:=u6 (y.m % 18446744073709551616).toNat rest (by omega) (by rw [r2];exact q2)
          refine ⟨?_,by rw [e8,t2,r2,List.length_append,e8_len];(try simp) <;> (try omega),by rw [t3,r3]⟩
          have hmy:mm=y.m:=by rw [hmm,t1];have:=hy.m0;have:=hy.m1;unfold wrap64;omega
          obtain ⟨yk,ym,yx,yr⟩:=y
          dsimp only at hy2 hyr hmy
          obtain ⟨g1,g2⟩:=hyr
          subst hy2 g1 g2 hmy
          rfl⟩:RV8 b a c M k bad W _ WF)
    unfold s4 at hWF
    have HWF:Hid (WF = _):=hWF
    have HW5:Hid (w5 = _):=hw5
    clear rz kz1 bS bV hkz hRF hKF hWF hw5 bS4 bV4 hf5 rz4 u2 u3 u4 u5 u6 hmm hmr rd3 kg3 bS3 bV3 z3 hbl hla y2 y5 hxk
    clear HST
    go_upto_region 19 with fail
    rw [← (show w5 = _ from HW5)]
    clear HW5 s3 sz hcv
    go_wp2_with fail
    rw [← (show WF = _ from HWF)]
    clear HWF
    refine bodyPost_ret (by simp [results,Try.results37,go_sem,e0,e1,e2,e3];rfl) rfl ?_
    exact HFIN
  by_cases h3:x=3
  case pos =>
    obtain ⟨rd3,kg3,bS3,bV3,z3,hbl,hla,y2,y5,hxk⟩:=(show RD b a c M k1 bad1 w3∧Kg b W w3∧w3.heap[W.heap.size]? = some (.cells #[.int .i64 0,.int .i64 0,.string ⟨#[]⟩,.int .i64 0] 41 (0,0))∧w3.heap[W.heap.size+1]? = some (.cells #[.int .i64 (x:Int),.int .i64 0,.string ⟨#[]⟩,.int .i64 0] 41 (0,0))∧w3.heap.size=W.heap.size+2∧b < W.heap.size∧(M = []∨a.block < W.heap.size)∧k≤k1∧(k1=k∨bad=true→bad1=true)∧∀ (y:Gv) rest,Wv y→M.drop k=v8 y ++ rest→(x:Int)=y.k∧k1=k+1∧bad1=bad from HST)
    obtain rfl:x=3:=by omega
    have h1:((3:Int) == 1)=false:=rfl
    have h2:((3:Int) == 2)=false:=rfl
    have h3:((3:Int) == 3)=true:=rfl
    have HSM:=rd_small rd3
    clear rd3 kg3 bS3 bV3 z3 hbl hla y2 y5 hxk
    go_upto_region 12 with (go_at_call 36;refine HSM.mono ?_;rintro e w4 ⟨v4,kq,bq,rfl,rz4,u2,u3,r,rfl,u4,u5,u6⟩)
    clear HSM
    have o0:w4.cell? ⟨b,0,none⟩=some (.slice (some a) M.length c):=cell_of rz4.blk rfl
    have o1:w4.cell? ⟨b,1,none⟩=some (.int .i64 (kq:Int)):=cell_of rz4.blk rfl
    have hkl:=rz4.le
    have hml:=rz4.sz
    have hmc:=rz4.cap
    obtain ⟨n,hn⟩:∃ n,n=M.length:=⟨_,rfl⟩
    have HST4:Hid (RD b a c M kq bq w4∧k1≤kq∧Kz b w3 w4∧r≤5000∧(kq=k1∨bad1=true→bq=true)∧(∀ (y:Nat) rest,y≤5000→M.drop k1=vb y ++ rest→r=y∧kq=k1+(vb y).length∧bq=bad1)∧n=M.length):=(⟨rz4,u2,u3,u4,u5,u6,hn⟩:_∧_)
    rw [← hn] at o0 hml hmc
    have hw1:wrap64 ((kq:Int)+(r:Int))=(kq:Int)+(r:Int):=by unfold wrap64;omega
    clear rz4 u2 u3 u5 u6 hn c0 hxI
    by_cases hov:n < kq+r
    · have hg:(n:Int) < (kq:Int)+(r:Int):=by omega
      go_quiet (skip)
      clear o0 o1
      obtain ⟨rz4,u2,u3,u4,u5,u6,hn⟩:=(show RD b a c M kq bq w4∧k1≤kq∧Kz b w3 w4∧r≤5000∧(kq=k1∨bad1=true→bq=true)∧(∀ (y:Nat) rest,y≤5000→M.drop k1=vb y ++ rest→r=y∧kq=k1+(vb y).length∧bq=bad1)∧n=M.length from HST4)
      obtain ⟨rd3,kg3,bS3,bV3,z3,hbl,hla,y2,y5,hxk⟩:=(show RD b a c M k1 bad1 w3∧Kg b W w3∧w3.heap[W.heap.size]? = some (.cells #[.int .i64 0,.int .i64 0,.string ⟨#[]⟩,.int .i64 0] 41 (0,0))∧w3.heap[W.heap.size+1]? = some (.cells #[.int .i64 ((3:Nat):Int),.int .i64 0,.string ⟨#[]⟩,.int .i64 0] 41 (0,0))∧w3.heap.size=W.heap.size+2∧b < W.heap.size∧(M = []∨a.block < W.heap.size)∧k≤k1∧(k1=k∨bad=true→bad1=true)∧∀ (y:Gv) rest,Wv y→M.drop k=v8 y ++ rest→((3:Nat):Int)=y.k∧k1=k+1∧bad1=bad from HST)
      have bS4:w4.heap[W.heap.size]? = some (.cells #[.int .i64 0,.int .i64 0,.string ⟨#[]⟩,.int .i64 0] 41 (0,0)):=(u3.block _ (by omega)).trans bS3
      have bV4:w4.heap[W.heap.size+1]? = some (.cells #[.int .i64 ((3:Nat):Int),.int .i64 0,.string ⟨#[]⟩,.int .i64 0] 41 (0,0)):=(u3.block _ (by omega)).trans bV3
      obtain ⟨w5,hw5⟩:∃ w5,w5=w4.drewN nq:=⟨_,rfl⟩
      rw [← hw5]
      have bS5:w5.heap[W.heap.size]? = some (.cells #[.int .i64 0,.int .i64 0,.string ⟨#[]⟩,.int .i64 0] 41 (0,0)):=by rw [hw5];exact bS4
      have bV5:w5.heap[W.heap.size+1]? = some (.cells #[.int .i64 ((3:Nat):Int),.int .i64 0,.string ⟨#[]⟩,.int .i64 0] 41 (0,0)):=by rw [hw5];exact bV4
      have rz5:RD b a c M kq bq w5:=by rw [hw5];exact ⟨rz4.blk,rz4.le,rz4.sz,rz4.cap,rz4.ne,rz4.row⟩
      have kz5:Kz b w3 w5:=by rw [hw5];exact u3.drewN _
      have kg5:Kg b W w5:=kg3.trans kz5.kg
      have q5:w5.cell? ⟨b,0,none⟩=some (.slice (some a) n c):=by rw [hn];exact cell_of rz5.blk rfl
      have q6:w5.cell? ⟨b,1,none⟩=some (.int .i64 (kq:Int)):=cell_of rz5.blk rfl
      have q7:w5.cell? ⟨b,2,none⟩=some (.bool bq):=cell_of rz5.blk rfl
      have f5:∀ j,w5.frozen? ⟨b,j,none⟩=false:=fun j=>frozen_of rz5.blk
      have s3:w5.cell? ⟨W.heap.size+1,2,none⟩=some (.string ⟨#[]⟩):=cell_of bV5 rfl
      have sz:∀ j,w5.frozen? ⟨W.heap.size+1,j,none⟩=false:=fun j=>frozen_of bV5
      clear hw5
      obtain ⟨w6,hw6⟩:∃ w6,w6=w5.setCell ⟨b,2,none⟩ (.bool true):=⟨_,rfl⟩
      obtain ⟨kz,hkz0⟩:∃ kz,kz=kq:=⟨_,rfl⟩
      obtain ⟨bz,hbz0⟩:∃ bz,bz=true:=⟨_,rfl⟩
      have zz:Kz b w5 w6:=by rw [hw6];exact (Kz.refl b w5).set 2 _
      have rz:RD b a c M kz bz w6:=rz5.kz zz (by rw [hw6,hkz0,hbz0];exact set_known (j:=2) (.bool true) rz5.blk) (by rw [hkz0];exact rz5.le)
      have kz1:Kg b W w6:=kg5.trans zz.kg
      have bS:w6.heap[W.heap.size]? = some (.cells #[.int .i64 0,.int .i64 0,.string ⟨#[]⟩,.int .i64 0] 41 (0,0)):=(zz.block _ (by omega)).trans bS5
      have bV:w6.heap[W.heap.size+1]? = some (.cells #[.int .i64 3,.int .i64 0,.string ⟨#[]⟩,.int .i64 0] 41 (0,0)):=(zz.block _ (by omega)).trans bV5
      have hkz:k≤kz:=by omega
      obtain ⟨WF,hWF⟩:∃ WF,WF=s4 w6 W.heap.size (3:Int) (0:Int) ⟨#[]⟩ (0:Int):=⟨_,rfl⟩
      have q0:w6.cell? ⟨W.heap.size,0,none⟩=some (.int .i64 0):=cell_of bS rfl
      have q1:w6.cell? ⟨W.heap.size,1,none⟩=some (.int .i64 0):=cell_of bS rfl
      have q2:w6.cell? ⟨W.heap.size,2,none⟩=some (.string ⟨#[]⟩):=cell_of bS rfl
      have q3:w6.cell? ⟨W.heap.size,3,none⟩=some (.int .i64 0):=cell_of bS rfl
      have qz:∀ j,w6.frozen? ⟨W.heap.size,j,none⟩=false:=fun j=>frozen_of bS
      have d0:w6.cell? ⟨W.heap.size+1,0,none⟩=some (.int .i64 (3:Int)):=cell_of bV rfl
      have d1:w6.cell? ⟨W.heap.size+1,1,none⟩=some (.int .i64 (0:Int)):=cell_of bV rfl
      have d2:w6.cell? ⟨W.heap.size+1,2,none⟩=some (.string ⟨#[]⟩):=cell_of bV rfl
      have d3:w6.cell? ⟨W.heap.size+1,3,none⟩=some (.int .i64 (0:Int)):=cell_of bV rfl
      obtain ⟨e0,e1,e2,e3⟩:=s4_cells (B:=W.heap.size) q0 q1 q2 q3 ((3:Int)) ((0:Int)) (⟨#[]⟩) ((0:Int))
      rw [← hWF] at e0 e1 e2 e3
      have hRF:RD b a c M kz bz WF:=by rw [hWF];exact rz.far (g:=W.heap.size) (fun q hq=>s4_far _ _ _ _ _ hq) (by omega) (hla.imp id (fun q=>by omega))
      have hKF:Kg b W WF:=by
        rw [hWF]
        exact ⟨kz1.os,kz1.output,by rw [s4_size];exact kz1.size,fun q h1 h2=>(s4_far _ _ _ _ _ (by omega)).trans (kz1.block q h1 h2)⟩
      have HFIN : Hid (RV8 b a c M k bad W (.returned (.agg #[.int .i64 ((3 : Int)), .int .i64 ((0 : Int)), .string (⟨#[]⟩), .int .i64 ((0 : Int))])) WF) := (⟨⟨(3 : Int), (0 : Int), ⟨#[]⟩, (0 : Int)⟩, kz, bz, rfl, hRF, hkz, hKF, ⟨by show _ ≤ (0 : Int); omega, by show (0 : Int) ≤ _; omega, by show (0 : Nat) ≤ _; omega⟩, fun _ => hbz0, fun y rest hy hm => by
            exfalso
            obtain ⟨r1,r2,r3⟩:=hxk y rest hy hm
            have hy3:y.k=3:=by have:((3:Nat):Int)=3:=rfl;omega
            have hyx:y.x.size≤5000:=(Wv.x3 hy hy3).1
            have e8:v8 y = [3] ++ vb y.x.size ++ y.x.data.toList:=v8_3 hy3
            rw [e8,List.append_assoc,List.append_assoc] at hm
            obtain ⟨q0,q2⟩:=drop_cons hm
            have hkM:=(List.getElem?_eq_some_iff.1 q0).1
            obtain ⟨t1,t2,t3⟩:=u6 y.x.size (y.x.data.toList ++ rest) hyx (by rw [r2];exact q2)
            have q3:M.drop (k+1)=vb y.x.size ++ (y.x.data.toList ++ rest):=q2
            have:=congrArg List.length q3
            rw [List.length_drop,List.length_append,List.length_append] at this
            have h9:y.x.data.toList.length=y.x.size:=Array.length_toList
            omega⟩:RV8 b a c M k bad W _ WF)
      unfold s4 at hWF
      have HWF:Hid (WF = _):=hWF
      have HW6:Hid (w6 = _):=hw6
      clear rz kz1 bS bV hkz hRF hKF hWF hw6 bS4 bV4 bS5 bV5 rz4 rz5 kz5 kg5 zz u2 u3 u4 u5 u6 hn hkz0 hbz0 s3 sz rd3 kg3 bS3 bV3 z3 hbl hla y2 y5 hxk
      clear HST HST4
      go_upto_region 14 with fail
      rw [← (show w6 = _ from HW6)]
      clear HW6 q5 q6 q7 f5
      go_wp2_with fail
      rw [← (show WF = _ from HWF)]
      clear HWF
      refine bodyPost_ret (by simp [results,Try.results37,go_sem,e0,e1,e2,e3];rfl) rfl ?_
      exact HFIN
    · have hg:¬ (n:Int) < (kq:Int)+(r:Int):=by omega
      go_quiet (skip)
      clear o0 o1
      obtain ⟨rz4,u2,u3,u4,u5,u6,hn⟩:=(show RD b a c M kq bq w4∧k1≤kq∧Kz b w3 w4∧r≤5000∧(kq=k1∨bad1=true→bq=true)∧(∀ (y:Nat) rest,y≤5000→M.drop k1=vb y ++ rest→r=y∧kq=k1+(vb y).length∧bq=bad1)∧n=M.length from HST4)
      obtain ⟨rd3,kg3,bS3,bV3,z3,hbl,hla,y2,y5,hxk⟩:=(show RD b a c M k1 bad1 w3∧Kg b W w3∧w3.heap[W.heap.size]? = some (.cells #[.int .i64 0,.int .i64 0,.string ⟨#[]⟩,.int .i64 0] 41 (0,0))∧w3.heap[W.heap.size+1]? = some (.cells #[.int .i64 ((3:Nat):Int),.int .i64 0,.string ⟨#[]⟩,.int .i64 0] 41 (0,0))∧w3.heap.size=W.heap.size+2∧b < W.heap.size∧(M = []∨a.block < W.heap.size)∧k≤k1∧(k1=k∨bad=true→bad1=true)∧∀ (y:Gv) rest,Wv y→M.drop k=v8 y ++ rest→((3:Nat):Int)=y.k∧k1=k+1∧bad1=bad from HST)
      have bS4:w4.heap[W.heap.size]? = some (.cells #[.int .i64 0,.int .i64 0,.string ⟨#[]⟩,.int .i64 0] 41 (0,0)):=(u3.block _ (by omega)).trans bS3
      have bV4:w4.heap[W.heap.size+1]? = some (.cells #[.int .i64 ((3:Nat):Int),.int .i64 0,.string ⟨#[]⟩,.int .i64 0] 41 (0,0)):=(u3.block _ (by omega)).trans bV3
      obtain ⟨w5,hw5⟩:∃ w5,w5=w4.drewN nq:=⟨_,rfl⟩
      rw [← hw5]
      have bS5:w5.heap[W.heap.size]? = some (.cells #[.int .i64 0,.int .i64 0,.string ⟨#[]⟩,.int .i64 0] 41 (0,0)):=by rw [hw5];exact bS4
      have bV5:w5.heap[W.heap.size+1]? = some (.cells #[.int .i64 ((3:Nat):Int),.int .i64 0,.string ⟨#[]⟩,.int .i64 0] 41 (0,0)):=by rw [hw5];exact bV4
      have rz5:RD b a c M kq bq w5:=by rw [hw5];exact ⟨rz4.blk,rz4.le,rz4.sz,rz4.cap,rz4.ne,rz4.row⟩
      have kz5:Kz b w3 w5:=by rw [hw5];exact u3.drewN _
      have kg5:Kg b W w5:=kg3.trans kz5.kg
      have q5:w5.cell? ⟨b,0,none⟩=some (.slice (some a) n c):=by rw [hn];exact cell_of rz5.blk rfl
      have q6:w5.cell? ⟨b,1,none⟩=some (.int .i64 (kq:Int)):=cell_of rz5.blk rfl
      have q7:w5.cell? ⟨b,2,none⟩=some (.bool bq):=cell_of rz5.blk rfl
      have f5:∀ j,w5.frozen? ⟨b,j,none⟩=false:=fun j=>frozen_of rz5.blk
      have s3:w5.cell? ⟨W.heap.size+1,2,none⟩=some (.string ⟨#[]⟩):=cell_of bV5 rfl
      have sz:∀ j,w5.frozen? ⟨W.heap.size+1,j,none⟩=false:=fun j=>frozen_of bV5
      clear hw5
      have HST5:Hid (RD b a c M kq bq w5∧Kg b W w5∧w5.heap[W.heap.size]? = some (.cells #[.int .i64 0,.int .i64 0,.string ⟨#[]⟩,.int .i64 0] 41 (0,0))∧w5.heap[W.heap.size+1]? = some (.cells #[.int .i64 ((3:Nat):Int),.int .i64 0,.string ⟨#[]⟩,.int .i64 0] 41 (0,0))):=(⟨rz5,kg5,bS5,bV5⟩:_∧_)
      obtain ⟨X,hX⟩:∃ X:ByteArray,X=⟨((M.drop kq).take r).toArray⟩:=⟨_,rfl⟩
      have hll:((M.drop kq).take r).length=r:=by rw [List.length_take,List.length_drop];omega
      obtain ⟨A0,hA0,hA1⟩:∃ A0:Addr,(if c=kq then some a else some (a.add kq))=some A0∧∀ j,j < r→A0.add j=a.add (kq+j):=by
        by_cases e:c=kq
        · exact ⟨a,if_pos e,fun j hj=>by omega⟩
        · exact ⟨a.add kq,if_neg e,fun j hj=>add_add2 _ _ _⟩
      have hcv:∀ (d cc:Nat),(convert 22 9 (.slice (some A0) r cc)).run Try.prog (w5.drewN d) = .ok (.string X) (w5.drewN d):=fun d cc=>by
        have:=run_convert_bytes_back (P:=Try.prog) (w5.drewN d) 22 9 5 A0 cc ((M.drop kq).take r) Try.underlying22 Try.underlying5 Try.underlying9 (fun j hj=>by
          have hj2:j < r:=by omega
          rw [hA1 j hj2]
          refine rz5.row (kq+j) _ ?_
          rw [List.getElem_take,List.getElem_drop]
          exact List.getElem?_eq_getElem _)
        rw [hll,← hX] at this
        exact this
      have hXz:X.size=r:=by rw [hX];exact hll
      have HX:Hid (X=⟨((M.drop kq).take r).toArray⟩∧X.size=r):=(⟨hX,hXz⟩:_∧_)
      have hw2:IntKind.i64.wrap ((kq:Int)+(r:Int))=(kq:Int)+(r:Int):=by first | (rw [IntKind.wrap_i64];done) | (rw [IntKind.wrap_i64];omega) | (rw [IntKind.wrap_i64];unfold wrap64;omega)
      clear rd3 kg3 bS3 bV3 z3 hbl hla y2 y5 hxk bS4 bV4 bS5 bV5 rz4 rz5 kz5 kg5 u2 u3 u4 u5 u6 hn hX hXz hll hA1
      go_upto_region 15 with fail
      refine AnyL.region (S:=fun W'=>W'.cell? ⟨b,0,none⟩=some (.slice (some a) n c)∧W'.cell? ⟨b,1,none⟩=some (.int .i64 (kq:Int))∧∀ cc,(convert 22 9 (.slice (some A0) r cc)).run Try.prog W' = .ok (.string X) W') (z:=17) (by kernel_rfl) ?_
      have hS0:(fun W':World=>W'.cell? ⟨b,0,none⟩=some (.slice (some a) n c)∧W'.cell? ⟨b,1,none⟩=some (.int .i64 (kq:Int))∧∀ cc,(convert 22 9 (.slice (some A0) r cc)).run Try.prog W' = .ok (.string X) W') w5.drew:=⟨q5,q6,fun cc=>hcv 1 cc⟩
      clear q5 q6 hcv
      refine AnyL.takeAt 0 (.pointer (some ⟨b,0,none⟩)) rfl (by kernel_rfl) (by kernel_rfl) (by kernel_rfl) (by kernel_rfl) (fun _ _ _ h=>h) rfl hS0 (by intro W' hW;obtain ⟨i0,i1,i2⟩:=hW;go_simp) ?_
      try simp only [Act.put,List.setIfInBounds_toArray,List.set_cons_zero,List.set_cons_succ]
      refine AnyL.takeAt 1 (.pointer (some ⟨b,0,none⟩)) rfl (by kernel_rfl) (by kernel_rfl) (by kernel_rfl) (by kernel_rfl) (fun _ _ _ h=>h) rfl hS0 (by intro W' hW;obtain ⟨i0,i1,i2⟩:=hW;go_simp) ?_
      try simp only [Act.put,List.setIfInBounds_toArray,List.set_cons_zero,List.set_cons_succ]
      refine AnyL.takeAt 2 (.pointer (some ⟨b,0,none⟩)) rfl (by kernel_rfl) (by kernel_rfl) (by kernel_rfl) (by kernel_rfl) (fun _ _ _ h=>h) rfl hS0 (by intro W' hW;obtain ⟨i0,i1,i2⟩:=hW;go_simp) ?_
      try simp only [Act.put,List.setIfInBounds_toArray,List.set_cons_zero,List.set_cons_succ]
      refine AnyL.takeAt 3 (.slice (some a) n c) rfl (by kernel_rfl) (by kernel_rfl) (by kernel_rfl) (by kernel_rfl) (fun _ _ _ h=>h) rfl hS0 (by intro W' hW;obtain ⟨i0,i1,i2⟩:=hW;go_simp) ?_
      try simp only [Act.put,List.setIfInBounds_toArray,List.set_cons_zero,List.set_cons_succ]
      refine AnyL.takeAt 4 (.pointer (some ⟨b,0,none⟩)) rfl (by kernel_rfl) (by kernel_rfl) (by kernel_rfl) (by kernel_rfl) (fun _ _ _ h=>h) rfl hS0 (by intro W' hW;obtain ⟨i0,i1,i2⟩:=hW;go_simp) ?_
      try simp only [Act.put,List.setIfInBounds_toArray,List.set_cons_zero,List.set_cons_succ]
      refine AnyL.takeAt 5 (.pointer (some ⟨b,0,none⟩)) rfl (by kernel_rfl) (by kernel_rfl) (by kernel_rfl) (by kernel_rfl) (fun _ _ _ h=>h) rfl hS0 (by intro W' hW;obtain ⟨i0,i1,i2⟩:=hW;go_simp) ?_
      try simp only [Act.put,List.setIfInBounds_toArray,List.set_cons_zero,List.set_cons_succ]
      refine AnyL.takeAt 6 (.pointer (some ⟨b,1,none⟩)) rfl (by kernel_rfl) (by kernel_rfl) (by kernel_rfl) (by kernel_rfl) (fun _ _ _ h=>h) rfl hS0 (by intro W' hW;obtain ⟨i0,i1,i2⟩:=hW;go_simp) ?_
      try simp only [Act.put,List.setIfInBounds_toArray,List.set_cons_zero,List.set_cons_succ]
      refine AnyL.takeAt 7 (.int .i64 (kq:Int)) rfl (by kernel_rfl) (by kernel_rfl) (by kernel_rfl) (by kernel_rfl) (fun _ _ _ h=>h) rfl hS0 (by intro W' hW;obtain ⟨i0,i1,i2⟩:=hW;go_simp) ?_
      try simp only [Act.put,List.setIfInBounds_toArray,List.set_cons_zero,List.set_cons_succ]
      refine AnyL.takeAt 8 (.pointer (some ⟨b,0,none⟩)) rfl (by kernel_rfl) (by kernel_rfl) (by kernel_rfl) (by kernel_rfl) (fun _ _ _ h=>h) rfl hS0 (by intro W' hW;obtain ⟨i0,i1,i2⟩:=hW;go_simp) ?_
      try simp only [Act.put,List.setIfInBounds_toArray,List.set_cons_zero,List.set_cons_succ]
      refine AnyL.takeAt 9 (.pointer (some ⟨b,0,none⟩)) rfl (by kernel_rfl) (by kernel_rfl) (by kernel_rfl) (by kernel_rfl) (fun _ _ _ h=>h) rfl hS0 (by intro W' hW;obtain ⟨i0,i1,i2⟩:=hW;go_simp) ?_
      try simp only [Act.put,List.setIfInBounds_toArray,List.set_cons_zero,List.set_cons_succ]
      refine AnyL.takeAt 10 (.pointer (some ⟨b,1,none⟩)) rfl (by kernel_rfl) (by kernel_rfl) (by kernel_rfl) (by kernel_rfl) (fun _ _ _ h=>h) rfl hS0 (by intro W' hW;obtain ⟨i0,i1,i2⟩:=hW;go_simp) ?_
      try simp only [Act.put,List.setIfInBounds_toArray,List.set_cons_zero,List.set_cons_succ]
      refine AnyL.takeAt 11 (.int .i64 (kq:Int)) rfl (by kernel_rfl) (by kernel_rfl) (by kernel_rfl) (by kernel_rfl) (fun _ _ _ h=>h) rfl hS0 (by intro W' hW;obtain ⟨i0,i1,i2⟩:=hW;go_simp) ?_
      try simp only [Act.put,List.setIfInBounds_toArray,List.set_cons_zero,List.set_cons_succ]
      refine AnyL.takeAt 12 (.int .i64 (r:Int)) rfl (by kernel_rfl) (by kernel_rfl) (by kernel_rfl) (by kernel_rfl) (fun _ _ _ h=>h) rfl hS0 (by intro W' hW;obtain ⟨i0,i1,i2⟩:=hW;go_simp) ?_
      try simp only [Act.put,List.setIfInBounds_toArray,List.set_cons_zero,List.set_cons_succ]
      refine AnyL.takeAt 13 (.int .i64 ((kq:Int)+(r:Int))) rfl (by kernel_rfl) (by kernel_rfl) (by kernel_rfl) (by kernel_rfl) (fun _ _ _ h=>h) rfl hS0 (by intro W' hW;obtain ⟨i0,i1,i2⟩:=hW;go_simp) ?_
      try simp only [Act.put,List.setIfInBounds_toArray,List.set_cons_zero,List.set_cons_succ]
      refine AnyL.takeAt 14 (.slice (some A0) r (c - kq)) rfl (by kernel_rfl) (by kernel_rfl) (by kernel_rfl) (by kernel_rfl) (fun _ _ _ h=>h) rfl hS0 (by intro W' hW;obtain ⟨i0,i1,i2⟩:=hW;go_simp;rw [if_pos ⟨by omega,by omega⟩,if_pos (by omega),show ((kq:Int)+(r:Int)).toNat - kq=r by omega]) ?_
      try simp only [Act.put,List.setIfInBounds_toArray,List.set_cons_zero,List.set_cons_succ]
      refine AnyL.takeAt 15 (.string X) rfl (by kernel_rfl) (by kernel_rfl) (by kernel_rfl) (by kernel_rfl) (fun _ _ _ h=>h) rfl hS0 (by intro W' hW;obtain ⟨i0,i1,i2⟩:=hW;go_simp) ?_
      try simp only [Act.put,List.setIfInBounds_toArray,List.set_cons_zero,List.set_cons_succ]
      refine AnyL.takeAt 16 (.pointer (some ⟨W.heap.size+1,2,none⟩)) rfl (by kernel_rfl) (by kernel_rfl) (by kernel_rfl) (by kernel_rfl) (fun _ _ _ h=>h) rfl hS0 (by intro W' hW;obtain ⟨i0,i1,i2⟩:=hW;go_simp) ?_
      try simp only [Act.put,List.setIfInBounds_toArray,List.set_cons_zero,List.set_cons_succ]
      clear hS0
      refine AnyL.oneAt 17 rfl (by kernel_rfl) rfl ?_
      intro K hK
      have s3d:w5.drew.cell? ⟨W.heap.size+1,2,none⟩=some (.string ⟨#[]⟩):=s3
      have szd:∀ j,w5.drew.frozen? ⟨W.heap.size+1,j,none⟩=false:=sz
      go_simp
      refine hK.out _ _ (fun h=>absurd rfl h) ?_
      clear hK K s3d szd s3 sz q7 f5
      try simp only [Act.put,List.setIfInBounds_toArray,List.set_cons_zero,List.set_cons_succ]
      refine AnyL.done (by kernel_rfl) ?_
      obtain ⟨rz4,u2,u3,u4,u5,u6,hn⟩:=(show RD b a c M kq bq w4∧k1≤kq∧Kz b w3 w4∧r≤5000∧(kq=k1∨bad1=true→bq=true)∧(∀ (y:Nat) rest,y≤5000→M.drop k1=vb y ++ rest→r=y∧kq=k1+(vb y).length∧bq=bad1)∧n=M.length from HST4)
      obtain ⟨rd3,kg3,bS3,bV3,z3,hbl,hla,y2,y5,hxk⟩:=(show RD b a c M k1 bad1 w3∧Kg b W w3∧w3.heap[W.heap.size]? = some (.cells #[.int .i64 0,.int .i64 0,.string ⟨#[]⟩,.int .i64 0] 41 (0,0))∧w3.heap[W.heap.size+1]? = some (.cells #[.int .i64 ((3:Nat):Int),.int .i64 0,.string ⟨#[]⟩,.int .i64 0] 41 (0,0))∧w3.heap.size=W.heap.size+2∧b < W.heap.size∧(M = []∨a.block < W.heap.size)∧k≤k1∧(k1=k∨bad=true→bad1=true)∧∀ (y:Gv) rest,Wv y→M.drop k=v8 y ++ rest→((3:Nat):Int)=y.k∧k1=k+1∧bad1=bad from HST)
      obtain ⟨rz5,kg5,bS5,bV5⟩:=(show RD b a c M kq bq w5∧Kg b W w5∧w5.heap[W.heap.size]? = some (.cells #[.int .i64 0,.int .i64 0,.string ⟨#[]⟩,.int .i64 0] 41 (0,0))∧w5.heap[W.heap.size+1]? = some (.cells #[.int .i64 ((3:Nat):Int),.int .i64 0,.string ⟨#[]⟩,.int .i64 0] 41 (0,0)) from HST5)
      obtain ⟨w6,hw6⟩:∃ w6,w6=(w5.setCell ⟨W.heap.size+1,2,none⟩ (.string X)).drew:=⟨_,rfl⟩
      rw [← hw6]
      have bV6:w6.heap[W.heap.size+1]? = some (.cells #[.int .i64 3,.int .i64 0,.string X,.int .i64 0] 41 (0,0)):=by rw [hw6];show (w5.setCell ⟨W.heap.size+1,2,none⟩ (.string X)).heap[W.heap.size+1]? = _;rw [set_known _ bV5];rfl
      have hf6:∀ q,q ≠ W.heap.size+1→w6.heap[q]? = w5.heap[q]?:=fun q hq=>by rw [hw6];show (w5.setCell ⟨W.heap.size+1,2,none⟩ (.string X)).heap[q]? = _;exact Below.heap_setCell _ _ _ _ hq
      have bS6:w6.heap[W.heap.size]? = some (.cells #[.int .i64 0,.int .i64 0,.string ⟨#[]⟩,.int .i64 0] 41 (0,0)):=(hf6 _ (by omega)).trans bS5
      have rz6:RD b a c M kq bq w6:=rz5.far hf6 (by omega) (hla.imp id (fun q=>by omega))
      have kg6:Kg b W w6:=⟨by rw [hw6];exact kg5.os,by rw [hw6];exact kg5.output,by rw [hw6];show _≤(w5.setCell ⟨W.heap.size+1,2,none⟩ (.string X)).heap.size;rw [World.size_setCell];exact kg5.size,fun q h1 h2=>(hf6 q (by omega)).trans (kg5.block q h1 h2)⟩
      have d1':w6.cell? ⟨b,1,none⟩=some (.int .i64 (kq:Int)):=cell_of rz6.blk rfl
      have f6:∀ j,w6.frozen? ⟨b,j,none⟩=false:=fun j=>frozen_of rz6.blk
      obtain ⟨w7,hw7⟩:∃ w7,w7=w6.setCell ⟨b,1,none⟩ (.int .i64 ((kq:Int)+(r:Int))):=⟨_,rfl⟩
      obtain ⟨kz,hkz0⟩:∃ kz,kz=kq+r:=⟨_,rfl⟩
      obtain ⟨bz,hbz0⟩:∃ bz,bz=bq:=⟨_,rfl⟩
      have zz:Kz b w6 w7:=by rw [hw7];exact (Kz.refl b w6).set 1 _
      have rz:RD b a c M kz bz w7:=rz6.kz zz (by rw [hw7,hkz0,hbz0,Int.natCast_add];exact set_known (j:=1) (.int .i64 ((kq:Int)+(r:Int))) rz6.blk) (by omega)
      have kz1:Kg b W w7:=kg6.trans zz.kg
      have bS:w7.heap[W.heap.size]? = some (.cells #[.int .i64 0,.int .i64 0,.string ⟨#[]⟩,.int .i64 0] 41 (0,0)):=(zz.block _ (by omega)).trans bS6
      have bV:w7.heap[W.heap.size+1]? = some (.cells #[.int .i64 3,.int .i64 0,.string X,.int .i64 0] 41 (0,0)):=(zz.block _ (by omega)).trans bV6
      have hkz:k≤kz:=by omega
      obtain ⟨hX,hXz⟩:=(show X=⟨((M.drop kq).take r).toArray⟩∧X.size=r from HX)
      obtain ⟨WF,hWF⟩:∃ WF,WF=s4 w7 W.heap.size (3:Int) (0:Int) X (0:Int):=⟨_,rfl⟩
      have q0:w7.cell? ⟨W.heap.size,0,none⟩=some (.int .i64 0):=cell_of bS rfl
      have q1:w7.cell? ⟨W.heap.size,1,none⟩=some (.int .i64 0):=cell_of bS rfl
      have q2:w7.cell? ⟨W.heap.size,2,none⟩=some (.string ⟨#[]⟩):=cell_of bS rfl
      have q3:w7.cell? ⟨W.heap.size,3,none⟩=some (.int .i64 0):=cell_of bS rfl
      have qz:∀ j,w7.frozen? ⟨W.heap.size,j,none⟩=false:=fun j=>frozen_of bS
      have d0:w7.cell? ⟨W.heap.size+1,0,none⟩=some (.int .i64 (3:Int)):=cell_of bV rfl
      have d1:w7.cell? ⟨W.heap.size+1,1,none⟩=some (.int .i64 (0:Int)):=cell_of bV rfl
      have d2:w7.cell? ⟨W.heap.size+1,2,none⟩=some (.string X):=cell_of bV rfl
      have d3:w7.cell? ⟨W.heap.size+1,3,none⟩=some (.int .i64 (0:Int)):=cell_of bV rfl
      obtain ⟨e0,e1,e2,e3⟩:=s4_cells (B:=W.heap.size) q0 q1 q2 q3 ((3:Int)) ((0:Int)) (X) ((0:Int))
      rw [← hWF] at e0 e1 e2 e3
      have hRF:RD b a c M kz bz WF:=by rw [hWF];exact rz.far (g:=W.heap.size) (fun q hq=>s4_far _ _ _ _ _ hq) (by omega) (hla.imp id (fun q=>by omega))
      have hKF:Kg b W WF:=by
        rw [hWF]
        exact ⟨kz1.os,kz1.output,by rw [s4_size];exact kz1.size,fun q h1 h2=>(s4_far _ _ _ _ _ (by omega)).trans (kz1.block q h1 h2)⟩
      have HFIN : Hid (RV8 b a c M k bad W (.returned (.agg #[.int .i64 ((3 : Int)), .int .i64 ((0 : Int)), .string (X), .int .i64 ((0 : Int))])) WF) := (⟨⟨(3 : Int), (0 : Int), X, (0 : Int)⟩, kz, bz, rfl, hRF, hkz, hKF, ⟨by show _ ≤ (0 : Int); omega, by show (0 : Int) ≤ _; omega, by show X.size ≤ _; omega⟩, fun e => by rw [hbz0]; exact u5 (e.elim (fun e => .inl (by omega)) (fun e => .inr (y5 (.inr e)))), fun y rest hy hm => by
            obtain ⟨r1,r2,r3⟩:=hxk y rest hy hm
            have hy3:y.k=3:=by have:((3:Nat):Int)=3:=rfl;omega
            obtain ⟨hyx,hym,hyr⟩:=Wv.x3 hy hy3
            have e8:v8 y = [3] ++ vb y.x.size ++ y.x.data.toList:=v8_3 hy3
            rw [e8,List.append_assoc,List.append_assoc] at hm
            obtain ⟨q0,q2⟩:=drop_cons hm
            have q3:M.drop (k+1)=vb y.x.size ++ (y.x.data.toList ++ rest):=q2
            obtain ⟨t1,t2,t3⟩:=u6 y.x.size (y.x.data.toList ++ rest) hyx (by rw [r2];exact q3)
            have h9:y.x.data.toList.length=y.x.size:=Array.length_toList
            refine ⟨?_,by rw [e8,hkz0,t2,r2,List.length_append,List.length_append,h9,t1];show _=k+(1+_+_);omega,by rw [hbz0,t3,r3]⟩
            have hXy:X=y.x:=by
              rw [hX,t2,r2,← List.drop_drop,q3,List.drop_left,t1,← h9,List.take_left]
            obtain ⟨yk,ym,yx,yr⟩:=y
            dsimp only at hy3 hym hyr hXy
            subst hy3 hym hyr hXy
            rfl⟩:RV8 b a c M k bad W _ WF)
      unfold s4 at hWF
      have HWF:Hid (WF = _):=hWF
      have HW7:Hid (w7=w6.setCell ⟨b,1,none⟩ (.int .i64 ((kq:Int)+(r:Int)))):=hw7
      clear rz kz1 bS bV hkz hRF hKF hWF hw6 hw7 bS5 bV5 rz4 rz5 rz6 kg5 kg6 bS6 bV6 hf6 zz u2 u3 u4 u5 u6 hn hkz0 hbz0 hX hXz rd3 kg3 bS3 bV3 z3 hbl hla y2 y5 hxk HST HST4 HST5 HX
      go_upto_region 19 with fail
      rw [← (show w7 = _ from HW7)]
      clear HW7 d1' f6
      go_wp2_with fail
      rw [← (show WF = _ from HWF)]
      clear HWF
      refine bodyPost_ret (by simp [results,Try.results37,go_sem,e0,e1,e2,e3];rfl) rfl ?_
      exact HFIN
  obtain ⟨rd3,kg3,bS3,bV3,z3,hbl,hla,y2,y5,hxk⟩:=(show RD b a c M k1 bad1 w3∧Kg b W w3∧w3.heap[W.heap.size]? = some (.cells #[.int .i64 0,.int .i64 0,.string ⟨#[]⟩,.int .i64 0] 41 (0,0))∧w3.heap[W.heap.size+1]? = some (.cells #[.int .i64 (x:Int),.int .i64 0,.string ⟨#[]⟩,.int .i64 0] 41 (0,0))∧w3.heap.size=W.heap.size+2∧b < W.heap.size∧(M = []∨a.block < W.heap.size)∧k≤k1∧(k1=k∨bad=true→bad1=true)∧∀ (y:Gv) rest,Wv y→M.drop k=v8 y ++ rest→(x:Int)=y.k∧k1=k+1∧bad1=bad from HST)
  have g1:((x:Int) == 1)=false:=bne (by omega)
  have g2:((x:Int) == 2)=false:=bne (by omega)
  have g3:((x:Int) == 3)=false:=bne (by omega)
  have g4:((x:Int) == 4)=false:=bne (by omega)
  have rz:=rd3
  have kz1:=kg3
  have bS:=bS3
  have bV:=bV3
  obtain ⟨kz,hkz0⟩:∃ kz,kz=k1:=⟨_,rfl⟩
  obtain ⟨bz,hbz0⟩:∃ bz,bz=bad1:=⟨_,rfl⟩
  rw [← hkz0,← hbz0] at rz
  have hkz:k≤kz:=by omega
  obtain ⟨WF,hWF⟩:∃ WF,WF=s4 w3 W.heap.size (x:Int) (0:Int) ⟨#[]⟩ (0:Int):=⟨_,rfl⟩
  have q0:w3.cell? ⟨W.heap.size,0,none⟩=some (.int .i64 0):=cell_of bS rfl
  have q1:w3.cell? ⟨W.heap.size,1,none⟩=some (.int .i64 0):=cell_of bS rfl
  have q2:w3.cell? ⟨W.heap.size,2,none⟩=some (.string ⟨#[]⟩):=cell_of bS rfl
  have q3:w3.cell? ⟨W.heap.size,3,none⟩=some (.int .i64 0):=cell_of bS rfl
  have qz:∀ j,w3.frozen? ⟨W.heap.size,j,none⟩=false:=fun j=>frozen_of bS
  have d0:w3.cell? ⟨W.heap.size+1,0,none⟩=some (.int .i64 (x:Int)):=cell_of bV rfl
  have d1:w3.cell? ⟨W.heap.size+1,1,none⟩=some (.int .i64 (0:Int)):=cell_of bV rfl
  have d2:w3.cell? ⟨W.heap.size+1,2,none⟩=some (.string ⟨#[]⟩):=cell_of bV rfl
  have d3:w3.cell? ⟨W.heap.size+1,3,none⟩=some (.int .i64 (0:Int)):=cell_of bV rfl
  obtain ⟨e0,e1,e2,e3⟩:=s4_cells (B:=W.heap.size) q0 q1 q2 q3 ((x:Int)) ((0:Int)) (⟨#[]⟩) ((0:Int))
  rw [← hWF] at e0 e1 e2 e3
  have hRF:RD b a c M kz bz WF:=by rw [hWF];exact rz.far (g:=W.heap.size) (fun q hq=>s4_far _ _ _ _ _ hq) (by omega) (hla.imp id (fun q=>by omega))
  have hKF:Kg b W WF:=by
    rw [hWF]
    exact ⟨kz1.os,kz1.output,by rw [s4_size];exact kz1.size,fun q h1 h2=>(s4_far _ _ _ _ _ (by omega)).trans (kz1.block q h1 h2)⟩
  have HFIN : Hid (RV8 b a c M k bad W (.returned (.agg #[.int .i64 ((x : Int)), .int .i64 ((0 : Int)), .string (⟨#[]⟩), .int .i64 ((0 : Int))])) WF) := (⟨⟨(x : Int), (0 : Int), ⟨#[]⟩, (0 : Int)⟩, kz, bz, rfl, hRF, hkz, hKF, ⟨by show _ ≤ (0 : Int); omega, by show (0 : Int) ≤ _; omega, by show (0 : Nat) ≤ _; omega⟩, by rw [hkz0, hbz0]; exact y5, fun y rest hy hm => by
        obtain ⟨r1,r2,r3⟩:=hxk y rest hy hm
        have hy0:y.k=0:=by
          obtain ⟨t,et,hk⟩:=v8_head y hy
          omega
        rcases hy.ok with q | q | q | q
        · refine ⟨?_,?_,by rw [hbz0];exact r3⟩
          · obtain ⟨yk,ym,yx,yr⟩:=y
            obtain ⟨q1,q2,q3,q4⟩:=q
            dsimp only at q1 q2 q3 q4 r1
            subst q1 q2 q3 q4
            rw [r1]
          · rw [hkz0,r2];unfold v8;rw [if_neg (by omega),if_neg (by omega),if_neg (by omega),if_neg (by omega)];rfl
        · rcases q.1 with q | q <;> omega
        · have:=q.1;omega
        · have:=q.1;omega⟩:RV8 b a c M k bad W _ WF)
  unfold s4 at hWF
  have HWF:Hid (WF = _):=hWF
  clear rz kz1 bS bV hkz hRF hKF hWF rd3 kg3 bS3 bV3 z3 hbl hla y2 y5 hxk
  clear hkz0 hbz0
  go_wp2_with fail
  rw [← (show WF = _ from HWF)]
  clear HWF
  refine bodyPost_ret (by simp [results,Try.results37,go_sem,e0,e1,e2,e3];rfl) rfl ?_
  exact HFIN
end Go.Proofs.Ytamcnmnaadpfoaa.Fo
