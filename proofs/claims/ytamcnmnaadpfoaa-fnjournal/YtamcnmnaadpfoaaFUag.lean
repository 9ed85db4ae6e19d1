import Derived.Test.YtamcnmnaadpfoaaFUaf
import Derived.Test.YtamcnmnaadpfoaaFBaa
import Derived.Laws.Bits64b
set_option maxHeartbeats 16000000
namespace Go.Proofs.Ytamcnmnaadpfoaa.Fo
open Go.ChangeShapes Go.WideShapes Go.ChangeAt Go.RowKit
set_option linter.unusedVariables false
set_option maxRecDepth 100000
def Bse (c d:Nat) (C D:Nat→Int):Prop:=c=d∧∀ j,j < c→C j=D j
def RowU (w:World) (p:Option Addr) (c k:Nat) (C:Nat→Int):Prop:=0 < c→∃ a:Addr,p=some a∧c≤k∧∀ i,i < c→w.cell? (a.add i)=some (.int .u8 (C i))
theorem sp_equal {pa pb : Option Addr} {ca cb c d : Nat} {C D : Nat → Int} (w : World) (ha : RowU w pa c ca C) (hb : RowU w pb d cb D) (hc : c ≤ 1000000000) (hd : d ≤ 1000000000) :
  Calls Try.prog 18 #[.slice pa c ca,.slice pb d cb] w fun e w'=>e = .returned (.bool (dc (Bse c d C D)))∧∃ k,w'=w.drewN k:=by
 have hcI:(c:Int)≤1000000000:=by omega
 have hdI:(d:Int)≤1000000000:=by omega
 obtain ⟨R,hR⟩:∃ R,R=dc (Bse c d C D):=⟨_,rfl⟩
 rw [← hR]
 have HR:Hid (R=dc (Bse c d C D)):=hR
 clear hR
 by_cases hcd:c=d
 case neg =>
  obtain rfl:R=false:=(show R = _ from HR).trans (dc_f (fun q=>hcd q.1))
  have hne:((c:Int) != (d:Int))=true:=by simp;omega
  clear HR ha hb hcd
  go_enter Try.func18,Try.ntmps18
  go_wp2_with fail
  go_ret
  exact ⟨rfl,0,rfl⟩
 subst hcd
 have hne:((c:Int) != (c:Int))=false:=by simp
 have HA:Hid (RowU w pa c ca C∧RowU w pb c cb D):=(⟨ha,hb⟩:_∧_)
 clear ha hb hc hd
 go_enter Try.func18,Try.ntmps18
 go_wp2_with fail
 go_loopw [13] (fun s13 wr=>∃ j:Nat,s13 = .int .i64 (j:Int)∧j≤c∧Hid ((∃ k,wr=w.drewN k)∧∀ q,q < j→C q=D q)) (fun s13 _=>c - (intOf s13).toNat)
 case atStart=>exact ⟨0,rfl,Nat.zero_le _,⟨⟨0,rfl⟩,fun q hq=>by omega⟩⟩
 case round =>
  obtain ⟨j,rfl,hj0,HX⟩:=hrel
  obtain ⟨⟨kd,rfl⟩,hY⟩:=(show (∃ k,wr=w.drewN k)∧∀ q,q < j→C q=D q from HX)
  rcases Nat.lt_or_ge j c with hj | hj
  case inr =>
   obtain rfl:j=c:=by omega
   have hI:¬ (j:Int) < (j:Int):=by omega
   obtain rfl:R=true:=(show R = _ from HR).trans (dc_t ⟨rfl,hY⟩)
   clear HX hY HA HR hj
   go_wp2_with fail
   go_ret
   exact ⟨rfl,_,rfl⟩
  have hI:(j:Int) < (c:Int):=by omega
  obtain ⟨ha2,hb2⟩:=(show RowU w pa c ca C∧RowU w pb c cb D from HA)
  obtain ⟨qa,rfl,hca,hra⟩:=ha2 (by omega)
  obtain ⟨qb,rfl,hcb,hrb⟩:=hb2 (by omega)
  have p0:=hra j hj
  have q0:=hrb j hj
  have HBD2:Hid (¬ C j=D j→R=false):=(fun q=>(show R = _ from HR).trans (dc_f (fun g=>q (g.2 j hj))):_→_)
  have HM3:Hid (∀ q,q < j→C q=D q):=hY
  clear ha2 hb2 hra hrb hY HX hj0
  obtain ⟨y,hy⟩:∃ y,y=C j:=⟨_,rfl⟩
  obtain ⟨z,hz⟩:∃ z,z=D j:=⟨_,rfl⟩
  rw [← hy] at p0 HBD2
  rw [← hz] at q0 HBD2
  have HYZ:Hid (y=C j∧z=D j):=(⟨hy,hz⟩:_∧_)
  clear hy hz
  by_cases hyz:y=z
  ·subst hyz
   have hbb:(y != y)=false:=by simp
   go_wp2_with fail
   go_quiet (skip)
   go_wp2_with fail
   go_roundw
   case rel=>exact ⟨j+1,by go_num,by omega,⟨⟨_,rfl⟩,fun q hq=>by
    rcases Nat.lt_or_ge q j with h | h
    ·exact (show ∀ q,q < j→C q=D q from HM3) q h
    ·obtain rfl:q=j:=by omega
     exact (show y=C q∧y=D q from HYZ).1.symm.trans (show y=C q∧y=D q from HYZ).2⟩⟩
   case measure=>simp [intOf];omega
  ·have hbb:(y != z)=true:=by simp [hyz]
   obtain rfl:R=false:=(show ¬ y=z→R=false from HBD2) hyz
   clear HBD2 HM3 HYZ
   go_wp2_with fail
   go_quiet (skip)
   go_wp2_with fail
   go_ret
   exact ⟨rfl,_,by rw [World.drewN_drewN]⟩
theorem im_bytes_equal {pa pb : Option Addr} {ca cb c d : Nat} {L M : List UInt8} (w : World) (ha : (convert 22 9 (.slice pa c ca)).run Try.prog w = .ok (.string ⟨L.toArray⟩) w) (hb : (convert 22 9 (.slice pb d cb)).run Try.prog w = .ok (.string ⟨M.toArray⟩) w) :
  Calls Try.prog 22 #[.slice pa c ca,.slice pb d cb] w fun e w'=>e = .returned (.bool (decide (L=M)))∧w'=w:=by
 obtain ⟨X,hX⟩:∃ X:ByteArray,X=⟨L.toArray⟩:=⟨_,rfl⟩
 obtain ⟨Y,hY⟩:∃ Y:ByteArray,Y=⟨M.toArray⟩:=⟨_,rfl⟩
 rw [← hX] at ha
 rw [← hY] at hb
 obtain ⟨R,hR⟩:∃ R,R=decide (L=M):=⟨_,rfl⟩
 rw [← hR]
 have hxy:(L=M)↔X.toList=Y.toList:=by
  rw [hX,hY,Lib.toList_data,Lib.toList_data]
 have HH:Hid (R=decide (L=M)∧((L=M)↔X.toList=Y.toList)):=(⟨hR,hxy⟩:_∧_)
 clear hX hY hR hxy
 go_enter Try.func22,Try.ntmps22
 go_wp2_with fail
 go_ret
 obtain ⟨e1,e2⟩:=(show R=decide (L=M)∧((L=M)↔X.toList=Y.toList) from HH)
 rw [e1]
 by_cases e:L=M
 ·rw [decide_eq_true e,e2.1 e];simp
 ·rw [decide_eq_false e];simp;exact fun q=>e (e2.2 q)
theorem pr_lost {W : World} {b : Nat} {im : Value} (lf n : Int) (h : W.heap[b]? = some (.cells #[im, .int .i64 lf, .bool true] 77 (0, 0))) :
  Calls Try.prog 78 #[.pointer (some ⟨b,0,none⟩),.int .i64 n] W fun e w'=>e = .returned (.bool false)∧w'.heap[b]? = some (.cells #[im,.int .i64 lf,.bool true] 77 (0,0))∧Kz b W w':=by
 have c1:W.cell? ⟨b,1,none⟩=some (.int .i64 lf):=cell_of h rfl
 have c2:W.cell? ⟨b,2,none⟩=some (.bool true):=cell_of h rfl
 have f1:W.frozen? ⟨b,1,none⟩=false:=frozen_of h
 have f2:W.frozen? ⟨b,2,none⟩=false:=frozen_of h
 have HH:Hid (W.heap[b]? = some (.cells #[im,.int .i64 lf,.bool true] 77 (0,0))):=h
 clear h
 go_enter Try.func78,Try.ntmps78
 go_wp2_with fail
 go_ret
 exact ⟨rfl,by rw [set_known _ (show W.heap[b]? = _ from HH)];rfl,(Kz.refl _ _).set _ _⟩
theorem pr_fits {W : World} {b : Nat} {im : Value} (lf n : Int) (h : W.heap[b]? = some (.cells #[im, .int .i64 lf, .bool false] 77 (0, 0))) (h0 : 0 ≤ n) (h1 : n ≤ lf) (hr : lf ≤ 1000000) :
  Calls Try.prog 78 #[.pointer (some ⟨b,0,none⟩),.int .i64 n] W fun e w'=>e = .returned (.bool true)∧w'.heap[b]? = some (.cells #[im,.int .i64 (lf - n),.bool false] 77 (0,0))∧Kz b W w':=by
 have c1:W.cell? ⟨b,1,none⟩=some (.int .i64 lf):=cell_of h rfl
 have c2:W.cell? ⟨b,2,none⟩=some (.bool false):=cell_of h rfl
 have f1:W.frozen? ⟨b,1,none⟩=false:=frozen_of h
 have f2:W.frozen? ⟨b,2,none⟩=false:=frozen_of h
 have HH:Hid (W.heap[b]? = some (.cells #[im,.int .i64 lf,.bool false] 77 (0,0))):=h
 clear h
 have g0:¬ n < 0:=by omega
 have g1:¬ lf < n:=by omega
 have hs:wrap64 (lf - n)=lf - n:=by unfold wrap64;omega
 clear h0 h1 hr
 go_enter Try.func78,Try.ntmps78
 go_wp2_with fail
 go_ret
 exact ⟨rfl,by rw [set_known _ (set_known _ (show W.heap[b]? = _ from HH))];rfl,((Kz.refl _ _).set _ _).set _ _⟩
theorem pr_long {W : World} {b : Nat} {im : Value} (lf n : Int) (h : W.heap[b]? = some (.cells #[im, .int .i64 lf, .bool false] 77 (0, 0))) (h0 : 0 ≤ n) (h1 : lf < n) :
  Calls Try.prog 78 #[.pointer (some ⟨b,0,none⟩),.int .i64 n] W fun e w'=>e = .returned (.bool false)∧w'.heap[b]? = some (.cells #[im,.int .i64 lf,.bool true] 77 (0,0))∧Kz b W w':=by
 have c1:W.cell? ⟨b,1,none⟩=some (.int .i64 lf):=cell_of h rfl
 have c2:W.cell? ⟨b,2,none⟩=some (.bool false):=cell_of h rfl
 have f1:W.frozen? ⟨b,1,none⟩=false:=frozen_of h
 have f2:W.frozen? ⟨b,2,none⟩=false:=frozen_of h
 have HH:Hid (W.heap[b]? = some (.cells #[im,.int .i64 lf,.bool false] 77 (0,0))):=h
 clear h
 have g0:¬ n < 0:=by omega
 clear h0
 go_enter Try.func78,Try.ntmps78
 go_wp2_with fail
 go_ret
 exact ⟨rfl,by rw [set_known _ (show W.heap[b]? = _ from HH)];rfl,(Kz.refl _ _).set _ _⟩
theorem pr_neg {W : World} {b : Nat} {im : Value} (lf n : Int) (h : W.heap[b]? = some (.cells #[im, .int .i64 lf, .bool false] 77 (0, 0))) (h0 : n < 0) :
  Calls Try.prog 78 #[.pointer (some ⟨b,0,none⟩),.int .i64 n] W fun e w'=>e = .returned (.bool false)∧w'.heap[b]? = some (.cells #[im,.int .i64 lf,.bool true] 77 (0,0))∧Kz b W w':=by
 have c1:W.cell? ⟨b,1,none⟩=some (.int .i64 lf):=cell_of h rfl
 have c2:W.cell? ⟨b,2,none⟩=some (.bool false):=cell_of h rfl
 have f1:W.frozen? ⟨b,1,none⟩=false:=frozen_of h
 have f2:W.frozen? ⟨b,2,none⟩=false:=frozen_of h
 have HH:Hid (W.heap[b]? = some (.cells #[im,.int .i64 lf,.bool false] 77 (0,0))):=h
 clear h
 go_enter Try.func78,Try.ntmps78
 go_wp2_with fail
 go_ret
 exact ⟨rfl,by rw [set_known _ (show W.heap[b]? = _ from HH)];rfl,(Kz.refl _ _).set _ _⟩
structure RI (b:Nat) (p:Option Addr) (c:Nat) (M:List UInt8) (k:Nat) (lost:Bool) (W:World):Prop where
 blk:W.heap[b]? = some (.cells #[.slice p M.length c,.int .i64 ((M.length:Int) - (k:Int)),.bool lost] 77 (0,0))
 le:k≤M.length
 sz:M.length≤1000000
 cap:M.length≤c
 row : 0 < M.length→∃ a,p=some a∧a.block ≠ b∧∀ i (x:UInt8),M[i]? = some x→W.cell? (a.add i)=some (.int .u8 (x.toNat:Int))
theorem RI.kz {b:Nat} {p:Option Addr} {c:Nat} {M:List UInt8} {k k':Nat} {lost lost':Bool} {W w':World} (h:RI b p c M k lost W) (z:Kz b W w') (hb:w'.heap[b]? = some (.cells #[.slice p M.length c,.int .i64 ((M.length:Int) - (k':Int)),.bool lost'] 77 (0,0))) (hk:k'≤M.length):RI b p c M k' lost' w' :=
 ⟨hb,hk,h.sz,h.cap,fun hm=>by
  obtain ⟨a,h1,h2,h3⟩:=h.row hm
  exact ⟨a,h1,h2,fun i x hx=>(World.cell?_of_block (by rw [add_block];exact z.block _ h2)).trans (h3 i x hx)⟩⟩
theorem im_take_fits {b : Nat} {p : Option Addr} {c : Nat} {M : List UInt8} {k : Nat} {W : World} (n : Nat) (h : RI b p c M k false W) (hn : k + n ≤ M.length) :
  Calls Try.prog 41 #[.pointer (some ⟨b,0,none⟩),.int .i64 (n:Int)] W fun e w'=>(∃ q,e = .returned (.slice q n (c - k))∧q=if c=k then p else p.map (·.add k))∧RI b p c M (k+n) false w'∧Kz b W w':=by
 have hsz:=h.sz
 have hcap:=h.cap
 have hle:=h.le
 have c0:W.cell? ⟨b,0,none⟩=some (.slice p M.length c):=cell_of h.blk rfl
 have c1:W.cell? ⟨b,1,none⟩=some (.int .i64 ((M.length:Int) - (k:Int))):=cell_of h.blk rfl
 have hat:IntKind.i64.wrap ((M.length:Int) - ((M.length:Int) - (k:Int)))=(k:Int):=by rw [IntKind.wrap_i64];omega
 have hw:IntKind.i64.wrap ((k:Int)+(n:Int))=((k+n:Nat):Int):=by rw [IntKind.wrap_i64];omega
 have HH:Hid (RI b p c M k false W):=h
 have HC:∀ d:Nat,_:=fun d=>pr_fits (W:=W.drewN d) ((M.length:Int) - (k:Int)) (n:Int) h.blk (by omega) (by omega) (by omega)
 have hE1:(k:Int)≤(k:Int)+(n:Int):=by omega
 have hE2:(k:Int)+(n:Int)≤(c:Int):=by omega
 have hE3:(0:Int)≤(k:Int):=by omega
 have hE4:k≤k+n:=by omega
 have hE5:k+n≤c:=by omega
 have HF:∀ (d:Nat) (w1:World),w1.heap[b]? = some (.cells #[.slice p M.length c,.int .i64 ((M.length:Int) - (k:Int) - (n:Int)),.bool false] 77 (0,0))→Kz b (W.drewN d) w1→RI b p c M (k+n) false w1∧Kz b W w1:=fun d w1 z1 z2=>by
  have z:Kz b W w1:=((Kz.refl b W).drewN d).trans z2
  exact ⟨h.kz z (by rw [z1,show ((k+n:Nat):Int)=(k:Int)+(n:Int) by omega,show (M.length:Int) - ((k:Int)+(n:Int))=(M.length:Int) - (k:Int) - (n:Int) by omega]) hn,z⟩
 clear h
 by_cases hck:c=k
 ·obtain rfl:n=0:=by omega
  subst hck
  clear hw hE1 hE2 hE4 hE5
  go_enter Try.func41,Try.ntmps41
  go_wp2_with fail
  go_quiet (skip)
  go_wp2_with (go_at_call 78;refine (HC _).mono ?_;rintro e w1 ⟨rfl,z1,z2⟩;have d0:w1.cell? ⟨b,0,none⟩=some (.slice p M.length c):=cell_of z1 rfl)
  go_ret
  obtain ⟨q1,q2⟩:=HF _ _ z1 z2
  refine ⟨?_,q1,q2⟩
  simp
 ·rw [if_neg hck]
  go_enter Try.func41,Try.ntmps41
  go_wp2_with fail
  go_quiet (skip)
  go_wp2_with (go_at_call 78;refine (HC _).mono ?_;rintro e w1 ⟨rfl,z1,z2⟩;have d0:w1.cell? ⟨b,0,none⟩=some (.slice p M.length c):=cell_of z1 rfl)
  go_ret
  obtain ⟨q1,q2⟩:=HF _ _ z1 z2
  refine ⟨?_,q1,q2⟩
  simp
structure CU (b:Nat) (p:Option Addr) (c m:Nat) (B:Nat) (W:World):Prop where
 blk:∃ k s:Nat,W.heap[b]? = some (.cells #[.slice p m c,.int .i64 (k:Int),.int .u64 (s:Int)] 59 (0,0))∧k≤B∧s < 18446744073709551616
 cap:m≤c
 row:∀ i,i < m→∃ a,p=some a∧a.block ≠ b∧a.block < W.heap.size∧∃ x:Nat,x < 256∧W.cell? (a.add i)=some (.int .u8 (x:Int))
theorem CU.mono {b:Nat} {p:Option Addr} {c m B B':Nat} {W:World} (h:CU b p c m B W) (hb:B≤B'):CU b p c m B' W:=by
 obtain ⟨⟨k,s,h1,h2,h3⟩,h4,h5⟩:=h
 exact ⟨⟨k,s,h1,by omega,h3⟩,h4,h5⟩
theorem CU.rowkg {b:Nat} {p:Option Addr} {c m B:Nat} {W w':World} (h:CU b p c m B W) (z:Kg b W w'):∀ i,i < m→∃ a,p=some a∧a.block ≠ b∧a.block < w'.heap.size∧∃ x:Nat,x < 256∧w'.cell? (a.add i)=some (.int .u8 (x:Int)):=fun i hi=>by
 obtain ⟨a,h1,h2,h3,x,h4,h5⟩:=h.row i hi
 exact ⟨a,h1,h2,Nat.lt_of_lt_of_le h3 z.size,x,h4,(World.cell?_of_block (by rw [add_block];exact z.block _ h3 h2)).trans h5⟩
theorem CU.kz {b:Nat} {p:Option Addr} {c m B B':Nat} {W w':World} (h:CU b p c m B W) (z:Kg b W w') (k s:Nat) (hb:w'.heap[b]? = some (.cells #[.slice p m c,.int .i64 (k:Int),.int .u64 (s:Int)] 59 (0,0))) (hk:k≤B') (hs:s < 18446744073709551616):CU b p c m B' w' :=
 ⟨⟨k,s,hb,hk,hs⟩,h.cap,h.rowkg z⟩
theorem CU.lt {b:Nat} {p:Option Addr} {c m B:Nat} {W:World} (h:CU b p c m B W):b < W.heap.size:=by
 obtain ⟨⟨k,s,h1,_⟩,_⟩:=h
 exact (Array.getElem?_eq_some_iff.1 h1).1
theorem CU.kb {b:Nat} {p:Option Addr} {c m B:Nat} {W w':World} (h:CU b p c m B W) (z:Kb 0 W w'):CU b p c m B w':=by
 obtain ⟨k,s,h1,h2,h3⟩:=h.blk
 exact h.kz (Kg.of_kb z) k s ((z.block b (Nat.zero_le _) h.lt).trans h1) h2 h3
theorem u64_nat (z:Int):∃ t:Nat,t < 18446744073709551616∧IntKind.u64.wrap z=(t:Int):=by
 rw [IntKind.wrap_u64]
 exact ⟨(z % 18446744073709551616).toNat,by omega,by omega⟩
theorem and255 (z:Int):∃ x:Nat,x < 256∧wrap64 (bits BinOp.and IntKind.u64 (IntKind.u64.wrap z / 1099511627776) 255)=(x:Int):=by
 obtain ⟨t,ht,e⟩:=u64_nat z
 refine ⟨(t / 1099511627776) &&& 255,?_,?_⟩
 ·exact Nat.lt_of_le_of_lt Nat.and_le_right (by omega)
 ·rw [e,show (t:Int) / 1099511627776=((t / 1099511627776:Nat):Int) by omega,show (255:Int)=((255:Nat):Int) from rfl,bits_and_u64_nat _ _ (by omega) (by omega)]
  have:(t / 1099511627776) &&& 255≤255:=Nat.and_le_right
  unfold wrap64
  omega
theorem cu_next {b : Nat} {p : Option Addr} {c m B : Nat} {W : World} (h : CU b p c m B W) (hB : B ≤ 1000000) :
  Calls Try.prog 32 #[.pointer (some ⟨b,0,none⟩)] W fun e w'=>(∃ x:Nat,x < 256∧e = .returned (.int .i64 (x:Int)))∧CU b p c m (B+1) w'∧Kg b W w':=by
 obtain ⟨k,s,hb,hk,hs⟩:=h.blk
 have c0:W.cell? ⟨b,0,none⟩=some (.slice p m c):=cell_of hb rfl
 have c1:W.cell? ⟨b,1,none⟩=some (.int .i64 (k:Int)):=cell_of hb rfl
 have c2:W.cell? ⟨b,2,none⟩=some (.int .u64 (s:Int)):=cell_of hb rfl
 have f1:W.frozen? ⟨b,1,none⟩=false:=frozen_of hb
 have f2:W.frozen? ⟨b,2,none⟩=false:=frozen_of hb
 have HH:Hid (CU b p c m B W):=h
 have hw:IntKind.i64.wrap ((k:Int)+1)=((k+1:Nat):Int):=by rw [IntKind.wrap_i64];omega
 have hrow:=h.row
 clear h
 by_cases hkm:k < m
 ·obtain ⟨a,rfl,hab,haz,x,hx,cx⟩:=hrow k hkm
  have hkI:(k:Int) < (m:Int):=by omega
  clear hrow
  go_enter Try.func32,Try.ntmps32
  go_wp2_with fail
  go_quiet (skip)
  go_wp2_with fail
  go_quiet (skip)
  go_wp2_with fail
  go_ret
  obtain ⟨t,ht,e⟩:=u64_nat (IntKind.u64.wrap (IntKind.u64.wrap ((s:Int)*6364136223846793005)+(x:Int))+1442695040888963407)
  have z:∀ q,Kz b W (((W.drewN q).setCell ⟨b,1,none⟩ (.int .i64 ((k:Int)+1))).setCell ⟨b,2,none⟩ (.int .u64 (t:Int))):=fun q=>(((Kz.refl b W).drewN _).set 1 _).set 2 _
  rw [e]
  refine ⟨⟨x,hx,rfl⟩,?_,(z _).kg⟩
  exact (show CU b (some a) c m B W from HH).kz (z _).kg (k+1) t (by rw [set_known _ (set_known _ (show (W.drewN _).heap[b]? = _ from hb))];rfl) (by omega) ht
 ·have hkI:¬ (k:Int) < (m:Int):=by omega
  clear hrow
  go_enter Try.func32,Try.ntmps32
  go_wp2_with fail
  go_quiet (skip)
  go_wp2_with fail
  go_ret
  obtain ⟨t,ht,e⟩:=u64_nat (IntKind.u64.wrap ((s:Int)*6364136223846793005)+1442695040888963407)
  obtain ⟨x,hx,ex⟩:=and255 (IntKind.u64.wrap ((s:Int)*6364136223846793005)+1442695040888963407)
  have z:Kz b W (((W.drewN nq).setCell ⟨b,2,none⟩ (.int .u64 (t:Int))).setCell ⟨b,1,none⟩ (.int .i64 ((k:Int)+1))):=(((Kz.refl b W).drewN _).set 2 _).set 1 _
  refine ⟨⟨x,hx,by rw [← ex];rfl⟩,?_,?_⟩
  ·rw [e]
   exact (show CU b p c m B W from HH).kz z.kg (k+1) t (by rw [set_known _ (set_known _ (show (W.drewN _).heap[b]? = _ from hb))];rfl) (by omega) ht
  ·rw [e]
   exact z.kg
end Go.Proofs.Ytamcnmnaadpfoaa.Fo
