import Derived.Test.YtamcnmnaadpfoaaFJtc
import Derived.Test.YtamcnmnaadpfoaaFPaf
set_option maxHeartbeats 4000000
namespace Go.Proofs.Ytamcnmnaadpfoaa.Fo
open Go.ChangeShapes Go.WideShapes Go.ChangeAt Go.RowKit
set_option linter.unusedVariables false
set_option maxRecDepth 100000
theorem and_u8 (x:Nat) (h:x < 256):bits .and .u8 (x:Int) 127=((x % 128:Nat):Int):=by
 have h1:∀ b:Fin 256,bits .and .u8 (b.val:Int) 127=((b.val % 128:Nat):Int):=by decide +kernel
 exact h1 ⟨x,h⟩
theorem ad_bits8 {u:Nat} (i x:Nat) (h:u < 18446744073709551616) (hx:x < 256):bits BinOp.or IntKind.u64 (u:Int) (IntKind.u64.wrap (IntKind.u64.wrap (bits BinOp.and IntKind.u8 (x:Int) 127)*2 ^ (7*i)))=(ad u i x:Int):=by
 have e:IntKind.u64.wrap (IntKind.u64.wrap (bits BinOp.and IntKind.u8 (x:Int) 127)*2 ^ (7*i))=((x % 128*2 ^ (7*i) % 18446744073709551616:Nat):Int):=by
  rw [and_u8 x hx,wrap_u64,wrap_u64]
  rw [show ((x % 128:Nat):Int) % 18446744073709551616=((x % 128:Nat):Int) by omega]
  generalize x % 128=r
  rw [Int.natCast_emod,Int.natCast_mul,Int.natCast_pow]
  rfl
 rw [e,Go.u64_or_nat _ _ h (Nat.mod_lt _ (by decide))]
 rfl
theorem rd_num {b : Nat} {a : Addr} {c : Nat} {M : List UInt8} {k : Nat} {bad : Bool} {W : World} (h : RD b a c M k bad W) :
  Calls Try.prog 68 #[.pointer (some ⟨b,0,none⟩)] W (RP b a c M k W (fun v k' bad'=>∃ x:Nat,v = .int .u64 (x:Int)∧x < 18446744073709551616∧(k'=k∨bad=true→bad'=true)∧∀ (y:Nat) rest,y < 18446744073709551616→M.drop k=vb y ++ rest→x=y∧k'=k+(vb y).length∧bad'=bad)):=by
 have HH:Hid (RD b a c M k bad W):=h
 clear h
 go_enter Try.func68,Try.ntmps68
 go_wp2_with fail
 go_loopw [3,4] (fun s3 s4 wr=>∃ (u i k':Nat) (bad':Bool),s3 = .int .u64 (u:Int)∧s4 = .int .i64 (i:Int)∧i≤10∧(u:Int) < 18446744073709551616∧Hid (RD b a c M k' bad' wr∧Kz b W wr∧k≤k'∧((k'=k→i=0∨bad'=true)∧(bad=true→bad'=true))∧Gy M k bad i u k' bad')) (fun _ s4 _=>10 - (intOf s4).toNat)
 case atStart =>
  refine ⟨0,0,k,bad,rfl,rfl,by omega,by omega,(⟨HH,Kz.refl _ _,Nat.le_refl _,⟨fun _=>.inl rfl,id⟩,fun y rest hy hm=>⟨?_,?_,rfl,?_,.inl rfl⟩⟩:_∧_)⟩
  ·rw [Nat.pow_zero,Nat.div_one];exact hm
  ·rw [Nat.pow_zero,Nat.mod_one]
  ·rw [Nat.pow_zero,Nat.div_one]
 case round =>
  obtain ⟨u,i,k',bad',rfl,rfl,hi,hu,HX⟩:=hrel
  rcases Nat.lt_or_ge i 10 with hi2 | hi2
  ·have hiI:(i:Int) < 10:=by omega
   have HB:=rd_byte (show _∧_ from HX).1
   go_upto_region 6 with (go_at_call 69;refine HB.mono ?_;rintro e w1 ⟨v1,k1,bad1,rfl,y1,y2,y3,x,rfl,y4,y5,y6⟩)
   obtain ⟨x1,x2,x3,x4,x5⟩:=(show _∧_∧_∧_∧_ from HX)
   have hU:=ad_bits8 i x (u:=u) (by omega) y4
   have hUl:=ad_lt (u:=u) i x (by omega)
   have HG:Hid (Gy M k bad i u k' bad'∧∀ y,M[k']? = some y→x=y.toNat∧k1=k'+1∧bad1=bad'):=(⟨x5,y6⟩:_∧_)
   have HR:Hid (RD b a c M k1 bad1 w1∧Kz b W w1∧k≤k1∧(k1=k∨bad=true→bad1=true)):=(⟨y1,x2.trans y3,Nat.le_trans x3 y2,fun e=>y5 (e.elim (fun e=>.inl (by omega)) (fun e=>.inr (x4.2 e)))⟩:_∧_)
   clear HB HX x1 x2 x3 x4 x5 y1 y2 y3 y5 y6
   go_upto_region 7 with fail
   have hxI:(x:Int) < 256:=by omega
   have HUL:Hid (ad u i x < 18446744073709551616):=hUl
   have hiw:(i:Int)+1≤10:=by omega
   by_cases hx:(x:Int) < 128
   ·have HQ:Hid (∀ (y:Nat) rest,y < 18446744073709551616→M.drop k=vb y ++ rest→ad u i x=y∧k1=k+(vb y).length∧bad1=bad):=(fun y rest h0 hm=>gy_end (show _∧_ from HG).1 (show _∧_ from HG).2 (by omega) h0 hm:∀ y:Nat,_)
    clear HG hU hUl
    generalize ad u i x=U at *
    go_wp2_with fail
    go_ret
    obtain ⟨q1,q2,q3,q4⟩:=(show _∧_∧_∧_ from HR)
    exact ⟨_,k1,bad1,rfl,q1,q3,q2,U,rfl,HUL,q4,HQ⟩
   ·have HG2:Hid (Gy M k bad (i+1) (ad u i x) k1 bad1):=gy_next (show _∧_ from HG).1 (show _∧_ from HG).2 (by omega)
    clear HG hU hUl
    generalize ad u i x=U at *
    go_wp2_with fail
    go_roundw
    case rel =>
     obtain ⟨q1,q2,q3,q4⟩:=(show _∧_∧_∧_ from HR)
     exact ⟨U,i+1,k1,bad1,rfl,by go_num,by omega,by have:=(show U < _ from HUL);omega,(⟨q1,q2,q3,⟨fun e=>.inr (q4 (.inl e)),fun e=>q4 (.inr e)⟩,HG2⟩:_∧_)⟩
    case measure=>simp [intOf];omega
  ·obtain rfl:i=10:=by omega
   obtain ⟨x1,x2,x3,x4,x5⟩:=(show RD b a c M k' bad' wr∧Kz b W wr∧k≤k'∧((k'=k→10=0∨bad'=true)∧(bad=true→bad'=true))∧Gy M k bad 10 u k' bad' from HX)
   have c2:wr.cell? ⟨b,2,none⟩=some (.bool bad'):=cell_of x1.blk rfl
   have f2:wr.frozen? ⟨b,2,none⟩=false:=frozen_of x1.blk
   have z:Kz b wr (wr.setCell ⟨b,2,none⟩ (.bool true)):=(Kz.refl b wr).set 2 _
   have HE:Hid (RD b a c M k' true (wr.setCell ⟨b,2,none⟩ (.bool true))∧Kz b W (wr.setCell ⟨b,2,none⟩ (.bool true))∧k≤k'∧∀ (y:Nat) rest,y < 18446744073709551616→M.drop k=vb y ++ rest→False):=(⟨x1.kz z (by have:=set_known (W:=wr) (j:=2) (.bool true) x1.blk;exact this) x1.le,x2.trans z,x3,fun y rest hy hm=>gy_ten x5 hy hm⟩:_∧_)
   clear HX x1 x2 x3 x4 x5 z hi hi2
   go_wp2_with fail
   go_ret
   obtain ⟨q1,q2,q3,q4⟩:=(show _∧_∧_∧_ from HE)
   exact ⟨_,k',true,rfl,q1,q3,q2,0,rfl,by omega,fun _=>rfl,fun y rest hy hm=>(q4 y rest hy hm).elim⟩
theorem rd_small {b : Nat} {a : Addr} {c : Nat} {M : List UInt8} {k : Nat} {bad : Bool} {W : World} (h : RD b a c M k bad W) :
  Calls Try.prog 36 #[.pointer (some ⟨b,0,none⟩)] W (RP b a c M k W (fun v k' bad'=>∃ x:Nat,v = .int .i64 (x:Int)∧x≤5000∧(k'=k∨bad=true→bad'=true)∧∀ (y:Nat) rest,y≤5000→M.drop k=vb y ++ rest→x=y∧k'=k+(vb y).length∧bad'=bad)):=by
 have HB:=rd_num h
 clear h
 go_enter Try.func36,Try.ntmps36
 go_upto_region 2 with (go_at_call 68;refine HB.mono ?_;rintro e w1 ⟨v1,k1,bad1,rfl,y1,y2,y3,x,rfl,y4,y5,y6⟩)
 clear HB
 by_cases hx:x≤5000
 ·have hxI:¬ (5000:Int) < (x:Int):=by omega
  have hcv:wrap64 (x:Int)=(x:Int):=by unfold wrap64;omega
  have HE:Hid (RD b a c M k1 bad1 w1∧Kz b W w1∧k≤k1∧(k1=k∨bad=true→bad1=true)∧x≤5000∧∀ (y:Nat) rest,y≤5000→M.drop k=vb y ++ rest→x=y∧k1=k+(vb y).length∧bad1=bad):=(⟨y1,y3,y2,y5,hx,fun y rest hy hm=>y6 y rest (by omega) hm⟩:_∧_)
  clear y1 y2 y3 y4 y5 y6 hx
  go_wp2_with fail
  go_ret
  obtain ⟨q1,q2,q3,q4,q5,q6⟩:=(show _∧_∧_∧_∧_∧_ from HE)
  exact ⟨_,k1,bad1,by first | rfl | (rw [← hcv];rfl),q1,q3,q2,x,rfl,q5,q4,q6⟩
 ·have hxI:(5000:Int) < (x:Int):=by omega
  have c2:w1.cell? ⟨b,2,none⟩=some (.bool bad1):=cell_of y1.blk rfl
  have f2:w1.frozen? ⟨b,2,none⟩=false:=frozen_of y1.blk
  have z:Kz b w1 (w1.setCell ⟨b,2,none⟩ (.bool true)):=(Kz.refl b w1).set 2 _
  have HE:Hid (RD b a c M k1 true (w1.setCell ⟨b,2,none⟩ (.bool true))∧Kz b W (w1.setCell ⟨b,2,none⟩ (.bool true))∧k≤k1∧∀ (y:Nat) rest,y≤5000→M.drop k=vb y ++ rest→False):=(⟨y1.kz z (by have:=set_known (W:=w1) (j:=2) (.bool true) y1.blk;exact this) y1.le,y3.trans z,y2,fun y rest hy hm=>by have:=(y6 y rest (by omega) hm).1;omega⟩:_∧_)
  clear y1 y2 y3 y4 y5 y6 hx z
  go_wp2_with fail
  go_ret
  obtain ⟨q1,q2,q3,q4⟩:=(show _∧_∧_∧_ from HE)
  exact ⟨_,k1,true,rfl,q1,q3,q2,0,rfl,by omega,fun _=>rfl,fun y rest hy hm=>(q4 y rest hy hm).elim⟩
def Ey (M:List UInt8) (k:Nat) (bad:Bool) (i u k':Nat) (bad':Bool):Prop:=∀ (y:Nat) rest,y < 18446744073709551616→M.drop k=e8 y 8 ++ rest→k'=k+i∧u=y % 256 ^ i∧bad'=bad
def ae (u i x:Nat):Nat:=u ||| (x*2 ^ (8*i) % 18446744073709551616)
theorem ae_lt {u:Nat} (i x:Nat) (h:u < 18446744073709551616):ae u i x < 18446744073709551616:=Nat.or_lt_two_pow (n:=64) h (Nat.mod_lt _ (by decide))
theorem ae_bits {u:Nat} (i x:Nat) (h:u < 18446744073709551616) (hx:x < 256):bits BinOp.or IntKind.u64 (u:Int) (IntKind.u64.wrap ((x:Int)*2 ^ (8*i)))=(ae u i x:Int):=by
 have e:IntKind.u64.wrap ((x:Int)*2 ^ (8*i))=((x*2 ^ (8*i) % 18446744073709551616:Nat):Int):=by
  rw [wrap_u64]
  rw [Int.natCast_emod,Int.natCast_mul,Int.natCast_pow]
  rfl
 rw [e,Go.u64_or_nat _ _ h (Nat.mod_lt _ (by decide))]
 rfl
theorem p256 (i:Nat) : 256 ^ i=2 ^ (8*i):=by rw [Nat.pow_mul]
theorem e8_at (y:Nat) {i:Nat}:∀ {n},i < n→(e8 y n)[i]? = some (UInt8.ofNat (y / 256 ^ i))
 | 0,h=>by omega
 | n+1,h=>by
  show (e8 y n ++ [_])[i]? = _
  by_cases e:i=n
  ·subst e
   rw [List.getElem?_append_right (by rw [e8_len];exact Nat.le_refl _),e8_len]
   simp
  ·rw [List.getElem?_append_left (by rw [e8_len];omega)]
   exact e8_at y (by omega)
theorem ae_step {y i:Nat} (hy:y < 18446744073709551616):ae (y % 256 ^ i) i (y / 256 ^ i % 256)=y % 256 ^ (i+1):=by
 have e:y % 256 ^ (i+1)=2 ^ (8*i)*(y / 256 ^ i % 256)+y % 256 ^ i:=by rw [Nat.pow_succ,Nat.mod_mul,Nat.add_comm,p256]
 have hle:y % 256 ^ (i+1)≤y:=Nat.mod_le _ _
 unfold ae
 rw [Nat.mul_comm,Nat.mod_eq_of_lt (a:=2 ^ (8*i)*_) (by omega),e,Nat.or_comm]
 exact (Nat.two_pow_add_eq_or_of_lt (by rw [← p256];exact Nat.mod_lt _ (Nat.pow_pos (by decide))) _).symm
theorem ey_next {M:List UInt8} {k:Nat} {bad:Bool} {i u k':Nat} {bad':Bool} {x k1:Nat} {bad1:Bool} (hi:i < 8) (h:Ey M k bad i u k' bad') (hb:∀ y,M[k']? = some y→x=y.toNat∧k1=k'+1∧bad1=bad'):Ey M k bad (i+1) (ae u i x) k1 bad1:=by
 intro y rest hy hm
 obtain ⟨rfl,rfl,rfl⟩:=h y rest hy hm
 have q:M[k+i]? = some (UInt8.ofNat (y / 256 ^ i)):=by
  have:=congrArg (fun l=>l[i]?) hm
  rw [List.getElem?_drop,List.getElem?_append_left (by rw [e8_len];exact hi),e8_at y hi] at this
  exact this
 obtain ⟨rfl,rfl,rfl⟩:=hb _ q
 refine ⟨by omega,?_,rfl⟩
 rw [UInt8.toNat_ofNat']
 exact ae_step hy
theorem rd_eight {b : Nat} {a : Addr} {c : Nat} {M : List UInt8} {k : Nat} {bad : Bool} {W : World} (h : RD b a c M k bad W) :
  Calls Try.prog 70 #[.pointer (some ⟨b,0,none⟩)] W (RP b a c M k W (fun v k' bad'=>∃ x:Nat,v = .int .u64 (x:Int)∧x < 18446744073709551616∧(bad=true→bad'=true)∧∀ (y:Nat) rest,y < 18446744073709551616→M.drop k=e8 y 8 ++ rest→x=y∧k'=k+8∧bad'=bad)):=by
 have HH:Hid (RD b a c M k bad W):=h
 clear h
 go_enter Try.func70,Try.ntmps70
 go_wp2_with fail
 go_loopw [3,4] (fun s3 s4 wr=>∃ (u i k':Nat) (bad':Bool),s3 = .int .u64 (u:Int)∧s4 = .int .i64 (i:Int)∧i≤8∧(u:Int) < 18446744073709551616∧Hid (RD b a c M k' bad' wr∧Kz b W wr∧k≤k'∧(bad=true→bad'=true)∧Ey M k bad i u k' bad')) (fun _ s4 _=>8 - (intOf s4).toNat)
 case atStart =>
  exact ⟨0,0,k,bad,rfl,rfl,by omega,by omega,(⟨HH,Kz.refl _ _,Nat.le_refl _,id,fun y rest hy hm=>⟨rfl,by rw [Nat.pow_zero,Nat.mod_one],rfl⟩⟩:_∧_)⟩
 case round =>
  obtain ⟨u,i,k',bad',rfl,rfl,hi,hu,HX⟩:=hrel
  rcases Nat.lt_or_ge i 8 with hi2 | hi2
  ·have hiI:(i:Int) < 8:=by omega
   have HB:=rd_byte (show _∧_ from HX).1
   obtain ⟨x1,x2,x3,x4,x5⟩:=(show _∧_∧_∧_∧_ from HX)
   have HX5:Hid (Kz b W wr∧k≤k'∧(bad=true→bad'=true)∧Ey M k bad i u k' bad'):=(⟨x2,x3,x4,x5⟩:_∧_)
   clear x1 x2 x3 x4 x5 HX
   go_wp2_with fail
   refine HB.mono ?_
   rintro e w1 ⟨v1,k1,bad1,rfl,y1,y2,y3,x,rfl,y4,y5,y6⟩
   obtain ⟨x2,x3,x4,x5⟩:=(show Kz b W wr∧k≤k'∧(bad=true→bad'=true)∧Ey M k bad i u k' bad' from HX5)
   have hU:=ae_bits i x (u:=u) (by omega) y4
   have hUl:=ae_lt (u:=u) i x (by omega)
   have hxI:(x:Int) < 256:=by omega
   have HR:Hid (RD b a c M k1 bad1 w1∧Kz b W w1∧k≤k1∧(bad=true→bad1=true)∧Ey M k bad (i+1) (ae u i x) k1 bad1):=(⟨y1,x2.trans y3,Nat.le_trans x3 y2,fun e=>y5 (.inr (x4 e)),ey_next hi2 x5 y6⟩:_∧_)
   have HUL:Hid (ae u i x < 18446744073709551616):=hUl
   clear HB HX5 x2 x3 x4 x5 y1 y2 y3 y5 y6 hUl
   obtain ⟨U,hUU⟩:∃ U,U=ae u i x:=⟨_,rfl⟩
   rw [← hUU] at hU HR HUL
   clear hUU
   go_wp2_with fail
   go_roundw
   case rel=>exact ⟨U,i+1,k1,bad1,by first | rfl | exact congrArg (Value.int .u64) hU,by go_num,by omega,by have:=(show U < _ from HUL);omega,HR⟩
   case measure=>simp [intOf];omega
  ·obtain rfl:i=8:=by omega
   obtain ⟨x1,x2,x3,x4,x5⟩:=(show RD b a c M k' bad' wr∧Kz b W wr∧k≤k'∧(bad=true→bad'=true)∧Ey M k bad 8 u k' bad' from HX)
   have HE:Hid (∀ (y:Nat) rest,y < 18446744073709551616→M.drop k=e8 y 8 ++ rest→u=y∧k'=k+8∧bad'=bad):=(fun y rest hy hm=>by
    obtain ⟨q1,q2,q3⟩:=x5 y rest hy hm
    exact ⟨by rw [q2,Nat.mod_eq_of_lt (by omega)],q1,q3⟩:∀ y:Nat,_)
   clear x1 x2 x3 x4 x5 hi hi2
   go_wp2_with fail
   go_ret
   obtain ⟨q1,q2,q3,q4,q5⟩:=(show _∧_∧_∧_∧_ from HX)
   exact ⟨_,k',bad',rfl,q1,q3,q2,u,rfl,by omega,q4,HE⟩
structure Kg (b:Nat) (W w':World):Prop where
 os:w'.os=W.os
 output:w'.output=W.output
 size:W.heap.size≤w'.heap.size
 block:∀ k,k < W.heap.size→k ≠ b→w'.heap[k]? = W.heap[k]?
theorem Kz.kg {b:Nat} {W w':World} (h:Kz b W w'):Kg b W w':=⟨h.os,h.output,Nat.le_of_eq h.size.symm,fun k _ hk=>h.block k hk⟩
theorem Kg.trans {b:Nat} {W w1 w2:World} (h:Kg b W w1) (k:Kg b w1 w2):Kg b W w2:=⟨k.os.trans h.os,k.output.trans h.output,Nat.le_trans h.size k.size,fun i h1 h2=>(k.block i (Nat.lt_of_lt_of_le h1 h.size) h2).trans (h.block i h1 h2)⟩
theorem Kg.of_kb {b:Nat} {W w':World} (h:Kb 0 W w'):Kg b W w':=⟨h.os,h.output,h.size,fun k hk _=>h.block k (Nat.zero_le _) hk⟩
theorem RD.kb {b:Nat} {a:Addr} {c:Nat} {M:List UInt8} {k:Nat} {bad:Bool} {W w':World} (h:RD b a c M k bad W) (z:Kb 0 W w'):RD b a c M k bad w' :=
 ⟨(z.block b (Nat.zero_le _) (Array.getElem?_eq_some_iff.1 h.blk).1).trans h.blk,h.le,h.sz,h.cap,h.ne,fun i x hx=>z.cellA (Nat.zero_le _) (h.row i x hx)⟩
def v8 (v:Gv):List UInt8:=if v.k=1 then [1] ++ vb (sgn v.m) else if v.k=2 then [2] ++ e8 (v.m % 18446744073709551616).toNat 8 else if v.k=3 then [3] ++ vb v.x.size ++ v.x.data.toList else if v.k=4 then [4] ++ vb v.r.toNat else [0]
theorem toI_v8 (v:Gv):toI (v8 v)=pvl v:=by
 unfold v8 pvl
 split
 ·rw [toI_app,toI_vb];rfl
 ·split
  ·rw [toI_app,toI_e8];rfl
  ·split
   ·rw [toI_app,toI_app,toI_vb];rfl
   ·split
    ·rw [toI_app,toI_vb];rfl
    ·rfl
structure Wv (y:Gv):Prop where
 ok:Vok 5001 y
 m0 : -9223372036854775808≤y.m
 m1:y.m≤9223372036854775807
structure Rv (g:Gv):Prop where
 m0 : -9223372036854775808≤g.m
 m1:g.m≤9223372036854775807
 x:g.x.size≤8192
def usg (n:Nat):Int:=if n % 2=1 then -(n / 2:Nat) - 1 else (n / 2:Nat)
theorem usg_sgn (y:Int):usg (sgn y)=y:=by
 unfold usg sgn
 by_cases h:y < 0
 ·rw [if_pos h,if_pos (by omega)];omega
 ·rw [if_neg h,if_neg (by omega)];omega
theorem usg_rg {n:Nat} (h:n < 18446744073709551616) : -9223372036854775808≤usg n∧usg n≤9223372036854775807:=by
 unfold usg
 split <;> omega
def RV8 (b:Nat) (a:Addr) (c:Nat) (M:List UInt8) (k:Nat) (bad:Bool) (W:World) (e:Ending) (w':World):Prop:=∃ (g:Gv) (k':Nat) (bad':Bool),e = .returned (.agg #[.int .i64 g.k,.int .i64 g.m,.string g.x,.int .i64 g.r])∧RD b a c M k' bad' w'∧k≤k'∧Kg b W w'∧Rv g∧(k'=k∨bad=true→bad'=true)∧∀ (y:Gv) rest,Wv y→M.drop k=v8 y ++ rest→g=y∧k'=k+(v8 y).length∧bad'=bad
theorem v8_head (y:Gv) (hy:Wv y):∃ t,v8 y=UInt8.ofNat y.k.toNat :: t∧(0≤y.k∧y.k≤4):=by
 have hk:y.k=0∨y.k=1∨y.k=2∨y.k=3∨y.k=4:=by
  rcases hy.ok with h | h | h | h
  ·exact .inl h.1
  ·rcases h.1 with q | q
   ·exact .inr (.inl q)
   ·exact .inr (.inr (.inl q))
  ·exact .inr (.inr (.inr (.inl h.1)))
  ·exact .inr (.inr (.inr (.inr h.1)))
 rcases hk with e | e | e | e | e <;> exact ⟨(v8 y).tail,by unfold v8;rw [e];rfl,by omega⟩
end Go.Proofs.Ytamcnmnaadpfoaa.Fo
