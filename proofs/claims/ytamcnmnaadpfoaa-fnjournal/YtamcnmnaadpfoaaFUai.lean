import Derived.Test.YtamcnmnaadpfoaaFUag
import Derived.Laws.Cover3
set_option maxHeartbeats 4000000
namespace Go.Proofs.Ytamcnmnaadpfoaa.Fo
open Go.ChangeShapes Go.WideShapes Go.ChangeAt Go.RowKit
set_option linter.unusedVariables false
set_option maxRecDepth 100000
theorem im_take_not {b : Nat} {p : Option Addr} {c : Nat} {M : List UInt8} {k : Nat} {lost : Bool} {W : World} (n : Int) (h : RI b p c M k lost W) (hn : lost = true ∨ n < 0 ∨ (M.length : Int) - (k : Int) < n) :
    Calls Try.prog 41 #[.pointer (some ⟨b,0,none⟩),.int .i64 n] W fun e w'=>e = .returned (.slice none 0 0)∧RI b p c M k true w'∧Kz b W w':=by
  have hsz:=h.sz
  have hle:=h.le
  have c0:W.cell? ⟨b,0,none⟩=some (.slice p M.length c):=cell_of h.blk rfl
  have c1:W.cell? ⟨b,1,none⟩=some (.int .i64 ((M.length:Int) - (k:Int))):=cell_of h.blk rfl
  have hat:IntKind.i64.wrap ((M.length:Int) - ((M.length:Int) - (k:Int)))=(k:Int):=by rw [IntKind.wrap_i64];omega
  have HC:∀ d:Nat,Calls Try.prog 78 #[.pointer (some ⟨b,0,none⟩),.int .i64 n] (W.drewN d) fun e w'=>e = .returned (.bool false)∧w'.heap[b]? = some (.cells #[.slice p M.length c,.int .i64 ((M.length:Int) - (k:Int)),.bool true] 77 (0,0))∧Kz b (W.drewN d) w':=fun d=>by
    have hb:=h.blk
    cases lost with
    | true=>exact pr_lost (W:=W.drewN d) _ n hb
    | false =>
      by_cases h0:n < 0
      · exact pr_neg (W:=W.drewN d) _ n hb h0
      · exact pr_long (W := W.drewN d) _ n hb (by omega) (by
          rcases hn with hn | hn | hn
          · cases hn
          · omega
          · exact hn)
  have HF:∀ (d:Nat) (w1:World),w1.heap[b]? = some (.cells #[.slice p M.length c,.int .i64 ((M.length:Int) - (k:Int)),.bool true] 77 (0,0))→Kz b (W.drewN d) w1→RI b p c M k true w1∧Kz b W w1:=fun d w1 z1 z2=>by
    have z:Kz b W w1:=((Kz.refl b W).drewN d).trans z2
    exact ⟨h.kz z z1 hle,z⟩
  clear h hn
  go_enter Try.func41,Try.ntmps41
  go_wp2_with fail
  go_quiet (skip)
  go_wp2_with (go_at_call 78;refine (HC _).mono ?_;rintro e w1 ⟨rfl,z1,z2⟩)
  go_ret
  obtain ⟨q1,q2⟩:=HF _ _ z1 z2
  exact ⟨rfl,q1,q2⟩
def RQ (b:Nat) (p:Option Addr) (c:Nat) (M:List UInt8) (k:Nat) (W:World) (Q:Value→Nat→Bool→Prop) (e:Ending) (w':World):Prop:=∃ v k' lost',e = .returned v∧RI b p c M k' lost' w'∧k≤k'∧Kz b W w'∧Q v k' lost'
theorem im_next {b : Nat} {p : Option Addr} {c : Nat} {M : List UInt8} {k : Nat} {lost : Bool} {W : World} (h : RI b p c M k lost W) :
    Calls Try.prog 101 #[.pointer (some ⟨b,0,none⟩)] W (RQ b p c M k W (fun v k' lost'=>∃ x:Nat,v = .int .u8 (x:Int)∧x < 256∧(lost'=false→k'=k+1)∧(lost'=true→x=0)∧(lost=true→lost'=true)∧∀ y,lost=false→M[k]? = some y→x=y.toNat∧k'=k+1∧lost'=false)):=by
  by_cases hf:lost=false∧k < M.length
  · obtain ⟨rfl,hk⟩:=hf
    have HC:=im_take_fits 1 h (by omega)
    obtain ⟨a,rfl,h2,h3⟩:=h.row (by omega)
    obtain ⟨x,hx⟩:∃ x,M[k]? = some x:=⟨_,List.getElem?_eq_getElem hk⟩
    have hcap:=h.cap
    have hck:¬ c=k:=by omega
    rw [if_neg hck] at HC
    have hxl:=x.toNat_lt
    have hr:∀ w1,Kz b W w1→w1.cell? (a.add k)=some (.int .u8 (x.toNat:Int)):=fun w1 z=>(World.cell?_of_block (by rw [add_block];exact z.block _ h2)).trans (h3 k x hx)
    have HX:Hid (M[k]? = some x):=hx
    clear h h3 hx hcap
    have hnn:∀ (a:Option Addr) (l c:Nat) (w:World),(binOp .neq 22 (.slice a l c) (.slice none 0 0)).run Try.prog w = .ok (.bool (!a.isNone)) w:=fun a l c w=>run_neq_slice_nil w 22 5 a l c Try.underlying22
    go_enter Try.func101,Try.ntmps101
    go_wp2_with (go_at_call 41;refine HC.mono ?_;rintro e w1 ⟨⟨q,rfl,rfl⟩,z1,z2⟩;have d0:=hr w1 z2)
    go_ret
    exact ⟨_,k+1,false,rfl,z1,by omega,z2,x.toNat,rfl,by omega,fun _=>rfl,(fun e=>(nomatch e)),(fun e=>(nomatch e)),fun y _ hy=>⟨by rw [show M[k]? = some x from HX] at hy;injection hy with hy;rw [hy],rfl,rfl⟩⟩
  · have HC := im_take_not 1 h (by
      cases lost with
      | true=>exact .inl rfl
      | false=>exact .inr (.inr (by have:¬ k < M.length:=fun e=>hf ⟨rfl,e⟩;omega)))
    have HN:Hid (∀ y,lost=false→M[k]? = some y→False):=(fun y e hy=>hf ⟨e,(List.getElem?_eq_some_iff.1 hy).1⟩:∀ y,_→_→False)
    clear h hf
    have hnn:∀ (a:Option Addr) (l c:Nat) (w:World),(binOp .neq 22 (.slice a l c) (.slice none 0 0)).run Try.prog w = .ok (.bool (!a.isNone)) w:=fun a l c w=>run_neq_slice_nil w 22 5 a l c Try.underlying22
    go_enter Try.func101,Try.ntmps101
    go_wp2_with (go_at_call 41;refine HC.mono ?_;rintro e w1 ⟨rfl,z1,z2⟩)
    go_ret
    exact ⟨_,k,true,rfl,z1,Nat.le_refl _,z2,0,rfl,by omega,(fun e=>(nomatch e)),fun _=>rfl,fun _=>rfl,fun y e hy=>(HN y e hy).elim⟩
def adp (u i x:Nat):Nat:=u ||| (x % 128*2 ^ (min (7*i) 64) % 18446744073709551616)
theorem adp_eq (u x:Nat) {i:Nat} (h:i≤9):adp u i x=ad u i x:=by unfold adp ad;rw [show min (7*i) 64=7*i by omega]
theorem adp_lt {u:Nat} (i x:Nat) (h:u < 18446744073709551616):adp u i x < 18446744073709551616:=Nat.or_lt_two_pow (n:=64) h (Nat.mod_lt _ (by decide))
theorem gy_nine {M:List UInt8} {k:Nat} {bad:Bool} {i u k':Nat} {bad':Bool} (h:Gy M k bad i u k' bad') {y:Nat} {rest:List UInt8} (hy:y < 18446744073709551616) (hm:M.drop k=vb y ++ rest):i≤9:=by
 obtain ⟨_,_,_,_,g5⟩:=h y rest hy hm
 rcases g5 with g5 | g5
 ·omega
 ·by_cases c:i≤9
  ·exact c
  ·have : 128 ^ 10≤128 ^ i:=Nat.pow_le_pow_right (by decide) (by omega)
   have e:(18446744073709551616:Nat)≤128 ^ 10:=by decide
   omega
theorem gyp_next {M:List UInt8} {k:Nat} {bad:Bool} {i u k':Nat} {bad':Bool} {x k1:Nat} {bad1:Bool} (h:Gy M k bad i u k' bad') (hb:∀ y,M[k']? = some y→x=y.toNat∧k1=k'+1∧bad1=bad') (hx : 128≤x):Gy M k bad (i+1) (adp u i x) k1 bad1:=by
 intro y rest hy hm
 rw [adp_eq u x (gy_nine h hy hm)]
 exact gy_next h hb hx y rest hy hm
theorem gyp_end {M:List UInt8} {k:Nat} {bad:Bool} {i u k':Nat} {bad':Bool} {x k1:Nat} {bad1:Bool} (h:Gy M k bad i u k' bad') (hb:∀ y,M[k']? = some y→x=y.toNat∧k1=k'+1∧bad1=bad') (hx:x < 128) {y:Nat} {rest:List UInt8} (hy:y < 18446744073709551616) (hm:M.drop k=vb y ++ rest):adp u i x=y∧k1=k+(vb y).length∧bad1=bad:=by
 rw [adp_eq u x (gy_nine h hy hm)]
 exact gy_end h hb hx hy hm
theorem shl_any (x:Int) (yk:IntKind) (s:Nat):Op.shift .shl .u64 x yk (s:Int)=pure (.int .u64 (IntKind.u64.wrap (x*2 ^ (min s 64)))):=by
 simp [Op.shift,IntKind.bits]
 omega
theorem adp_bits {u:Nat} (i x:Nat) (h:u < 18446744073709551616):bits BinOp.or IntKind.u64 (u:Int) (IntKind.u64.wrap (((x % 128:Nat):Int)*2 ^ (min (7*i) 64)))=(adp u i x:Int):=by
 have e:IntKind.u64.wrap (((x % 128:Nat):Int)*2 ^ (min (7*i) 64))=((x % 128*2 ^ (min (7*i) 64) % 18446744073709551616:Nat):Int):=by
  rw [wrap_u64]
  generalize x % 128=r
  rw [Int.natCast_emod,Int.natCast_mul,Int.natCast_pow]
  rfl
 rw [e,Go.u64_or_nat _ _ h (Nat.mod_lt _ (by decide))]
 rfl
theorem im_rgroups {b : Nat} {p : Option Addr} {c : Nat} {M : List UInt8} {k : Nat} {lost : Bool} {W : World} (h : RI b p c M k lost W) :
    Calls Try.prog 100 #[.pointer (some ⟨b,0,none⟩)] W (RQ b p c M k W (fun v k' lost'=>∃ u:Nat,v = .int .u64 (u:Int)∧u < 18446744073709551616∧(lost'=false→k < k')∧(lost=true→lost'=true)∧∀ y rest,lost=false→y < 18446744073709551616→M.drop k=vb y ++ rest→u=y∧k'=k+(vb y).length∧lost'=false)):=by
  have hsz:=h.sz
  have HH:Hid (RI b p c M k lost W):=h
  clear h
  go_enter Try.func100,Try.ntmps100
  go_wp2_with fail
  go_loopw [3,4] (fun s3 s4 wr=>∃ (u i:Nat) (lost':Bool),s3 = .int .u64 (u:Int)∧s4 = .int .i64 ((7*i:Nat):Int)∧i≤1000000∧Hid (u < 18446744073709551616∧RI b p c M (k+i) lost' wr∧Kz b W wr∧(i=0∧lost'=lost∨lost'=false)∧(lost=true→lost'=true)∧(lost=false→Gy M k false i u (k+i) lost'))) (fun _ s4 _=>7000008 - (intOf s4).toNat)
  case atStart =>
    refine ⟨0,0,lost,rfl,rfl,by omega,(⟨by omega,HH,Kz.refl _ _,.inl ⟨rfl,rfl⟩,fun e=>e,fun e y rest hy hm=>⟨?_,?_,e,?_,.inl rfl⟩⟩:_∧_)⟩
    · rw [Nat.pow_zero,Nat.div_one];exact hm
    · rw [Nat.pow_zero,Nat.mod_one]
    · rw [Nat.pow_zero,Nat.div_one];rfl
  case round =>
    obtain ⟨u,i,lost',rfl,rfl,hi,HX⟩:=hrel
    have HB:=im_next (show _∧_ from HX).2.1
    go_upto_region 5 with (go_at_call 101;refine HB.mono ?_;rintro e w1 ⟨v1,k1,l1,rfl,z1,z2,z3,x,rfl,z4,z5,z6,z7,z8⟩)
    obtain ⟨x1,x2,x3,x4,x5,x6⟩:=(show _∧_∧_∧_∧_∧_ from HX)
    obtain ⟨V,hV⟩:∃ V:Int,V=IntKind.u64.wrap (((x % 128:Nat):Int)*2 ^ (min (7*i) 64)):=⟨_,rfl⟩
    have hS:∀ w,(Op.shift BinOp.shl IntKind.u64 ((x:Int) % 128) IntKind.i64 (7*(i:Int))).run Try.prog w = .ok (.int .u64 V) w:=fun w=>by
      have e:=shl_any ((x % 128:Nat):Int) .i64 (7*i)
      rw [← hV] at e
      exact congrArg (fun m=>Sem.run Try.prog m w) e
    have hO:bits BinOp.or IntKind.u64 (u:Int) V=(adp u i x:Int):=by rw [hV];exact adp_bits i x x1
    have hUl:=adp_lt (u:=u) i x x1
    clear hV HB
    go_upto_region 6 with fail
    clear hS hO
    have hxI:(x:Int) < 256:=by omega
    have hb:lost'=false→∀ y,M[k+i]? = some y→x=y.toNat∧k1=k+i+1∧l1=false:=fun e y hy=>z8 y e hy
    by_cases hx:(x:Int) < 128
    · have HQ : Hid (adp u i x < 18446744073709551616 ∧ RI b p c M k1 l1 w1 ∧ k ≤ k1 ∧ Kz b W w1 ∧ (l1 = false → k < k1) ∧ (lost = true → l1 = true) ∧ ∀ y rest, lost = false → y < 18446744073709551616 → M.drop k = vb y ++ rest → adp u i x = y ∧ k1 = k + (vb y).length ∧ l1 = false) := (⟨hUl, z1, by omega, x3.trans z3, fun e => by have := z5 e; omega, fun e => z7 (x5 e), fun y rest e hy hm => by
        have hg:=x6 e
        obtain ⟨_,_,g3,_,_⟩:=hg y rest hy hm
        exact gyp_end hg (fun y2 h2=>by rw [g3];exact hb g3 y2 h2) (by omega) hy hm⟩:_∧_)
      clear HX x1 x2 x3 x4 x5 x6 z1 z2 z3 z5 z6 z7 z8 hb hUl
      generalize adp u i x=U at *
      go_wp2_with fail
      go_ret
      obtain ⟨q0,q1,q2,q3,q4,q5,q6⟩:=(show _∧_∧_∧_∧_∧_∧_ from HQ)
      exact ⟨_,k1,l1,rfl,q1,q2,q3,U,rfl,q0,q4,q5,q6⟩
    · have hl : l1 = false := by
        cases l1 with
        | false=>rfl
        | true=>have:=z6 rfl;omega
      have hk:=z5 hl
      have HN:Hid (adp u i x < 18446744073709551616∧RI b p c M (k+(i+1)) false w1∧Kz b W w1∧(lost=true→false=true)∧(lost=false→Gy M k false (i+1) (adp u i x) (k+(i+1)) false)):=(⟨hUl,by rw [← hl,show k+(i+1)=k1 by omega];exact z1,x3.trans z3,fun e=>by rw [← hl];exact z7 (x5 e),fun e=>by
        have hg:=x6 e
        have hlf:lost'=false:=by
          rcases x4 with ⟨_,h2⟩ | h2
          · rw [h2];exact e
          · exact h2
        rw [hlf] at hg
        rw [show k+(i+1)=k+i+1 by omega]
        exact gyp_next hg (fun y hy=>by obtain ⟨a1,a2,a3⟩:=hb hlf y hy;exact ⟨a1,rfl,rfl⟩) (by omega)⟩:_∧_)
      have hik:i+1≤1000000:=by have:=z1.le;omega
      clear HX x1 x2 x3 x4 x5 x6 z1 z2 z3 z5 z6 z7 z8 hb hUl hk
      generalize adp u i x=U at *
      go_wp2_with fail
      go_roundw
      case rel=>exact ⟨U,i+1,false,rfl,by go_num,hik,(⟨HN.1,HN.2.1,HN.2.2.1,.inr rfl,HN.2.2.2.1,HN.2.2.2.2⟩:_∧_)⟩
      case measure=>simp [intOf];omega
theorem im_rnum {b : Nat} {p : Option Addr} {c : Nat} {M : List UInt8} {k : Nat} {lost : Bool} {W : World} (h : RI b p c M k lost W) :
  Calls Try.prog 102 #[.pointer (some ⟨b,0,none⟩)] W (RQ b p c M k W (fun v k' lost'=>∃ x:Int,v = .int .i64 x∧Rn x∧(lost'=false→k < k')∧(lost=true→lost'=true)∧∀ y rest,lost=false→Rn y→M.drop k=vb (sgn y) ++ rest→x=y∧k'=k+(vb (sgn y)).length∧lost'=false)):=by
 have HB:=im_rgroups h
 clear h
 go_enter Try.func102,Try.ntmps102
 go_upto_region 2 with (go_at_call 100;refine HB.mono ?_;rintro e w1 ⟨v1,k1,l1,rfl,z1,z2,z3,u,rfl,z4,z5,z6,z7⟩)
 have HQ:Hid (Rn (usg u)∧RI b p c M k1 l1 w1∧k≤k1∧Kz b W w1∧(l1=false→k < k1)∧(lost=true→l1=true)∧∀ y rest,lost=false→Rn y→M.drop k=vb (sgn y) ++ rest→usg u=y∧k1=k+(vb (sgn y)).length∧l1=false):=(⟨usg_rg z4,z1,z2,z3,z5,z6,fun y rest e hy hm=>by
  obtain ⟨q1,q2,q3⟩:=z7 (sgn y) rest e (sgn_lt hy.1 hy.2) hm
  exact ⟨by rw [q1,usg_sgn],q2,q3⟩⟩:_∧_)
 have huI:(u:Int) < 18446744073709551616:=by omega
 clear HB z1 z2 z3 z4 z5 z6 z7
 rcases Nat.mod_two_eq_zero_or_one u with hm | hm
 ·have HE:Hid (usg u=((u / 2:Nat):Int)):=(by unfold usg;rw [if_neg (by omega)]:usg u=((u / 2:Nat):Int))
  have hmI:(u:Int) % 2=0:=by omega
  clear hm
  go_wp2_with fail
  go_ret
  obtain ⟨q0,q1,q2,q3,q4,q5,q6⟩:=(show _∧_∧_∧_∧_∧_∧_ from HQ)
  exact ⟨_,k1,l1,rfl,q1,q2,q3,usg u,by rw [show usg u = _ from HE];rfl,q0,q4,q5,q6⟩
 ·have HE:Hid (usg u = -((u / 2:Nat):Int) - 1):=(by unfold usg;rw [if_pos hm]:usg u = -((u / 2:Nat):Int) - 1)
  have hmI:(u:Int) % 2=1:=by omega
  clear hm
  go_wp2_with fail
  go_ret
  obtain ⟨q0,q1,q2,q3,q4,q5,q6⟩:=(show _∧_∧_∧_∧_∧_∧_ from HQ)
  exact ⟨_,k1,l1,rfl,q1,q2,q3,usg u,by rw [show usg u = _ from HE];rfl,q0,q4,q5,q6⟩
theorem im_rcount {b : Nat} {p : Option Addr} {c : Nat} {M : List UInt8} {k : Nat} {lost : Bool} {W : World} (h : RI b p c M k lost W) :
  Calls Try.prog 79 #[.pointer (some ⟨b,0,none⟩)] W (RQ b p c M k W (fun v k' lost'=>∃ x:Int,v = .int .i64 x∧Rn x∧(lost'=false→k < k')∧(lost=true→lost'=true)∧∀ (y:Nat) rest,lost=false→y≤9223372036854775807→M.drop k=vb y ++ rest→x=(y:Int)∧k'=k+(vb y).length∧lost'=false)):=by
 have HB:=im_rgroups h
 clear h
 go_enter Try.func79,Try.ntmps79
 go_wp2_with (go_at_call 100;refine HB.mono ?_;rintro e w1 ⟨v1,k1,l1,rfl,z1,z2,z3,u,rfl,z4,z5,z6,z7⟩)
 go_ret
 exact ⟨_,k1,l1,rfl,z1,z2,z3,wrap64 (u:Int),rfl,wr64_rg _,z5,z6,fun y rest e hy hm=>by
  obtain ⟨q1,q2,q3⟩:=z7 y rest e (by omega) hm
  exact ⟨by rw [q1];unfold wrap64;omega,q2,q3⟩⟩
theorem conv_zero (q:Option Addr) (c:Nat) (w:World):(convert 22 9 (.slice q 0 c)).run Try.prog w = .ok (.string ⟨#[]⟩) w:=by
 cases q with
 | some a=>exact run_convert_bytes_back w 22 9 5 a c [] Try.underlying22 Try.underlying5 Try.underlying9 (P:=Try.prog) (fun j hj=>by simp at hj)
 | none =>
  rw [run_convert_bytes_string w 22 9 5 none 0 c Try.underlying22 Try.underlying5 Try.underlying9]
  rfl
theorem conv_taken {b:Nat} {p:Option Addr} {c:Nat} {M:List UInt8} {k k2:Nat} {l2:Bool} {N:Nat} {w:World} (h:RI b p c M k2 l2 w) (hn:k+N≤M.length):(convert 22 9 (.slice (if c=k then p else p.map (·.add k)) N (c - k))).run Try.prog w = .ok (.string ⟨((M.drop k).take N).toArray⟩) w:=by
 by_cases h0:N=0
 ·subst h0
  rw [List.take_zero]
  exact conv_zero _ _ _
 ·obtain ⟨a,rfl,h2,h3⟩:=h.row (by omega)
  have hcap:=h.cap
  rw [if_neg (by omega)]
  have e:((M.drop k).take N).length=N:=by rw [List.length_take,List.length_drop];omega
  have:=run_convert_bytes_back w 22 9 5 (a.add k) (c - k) ((M.drop k).take N) Try.underlying22 Try.underlying5 Try.underlying9 (P:=Try.prog) (fun j hj=>?_)
  ·rw [e] at this;exact this
  ·have hj2:j < N:=by rw [e] at hj;exact hj
   have hr:=h3 (k+j) (((M.drop k).take N)[j]) (by rw [List.getElem_take,List.getElem_drop];exact List.getElem?_eq_getElem (by omega))
   rw [add_add2];exact hr
theorem w64i (n:Int):IntKind.i64.wrap n=wrap64 n:=by unfold wrap64;rw [IntKind.wrap_i64]
theorem sg_or {u:Nat} (i x:Nat) (h:u < 18446744073709551616) (hx:x < 256):bits BinOp.or IntKind.i64 (wrap64 (u:Int)) (wrap64 ((x:Int)*2 ^ (8*i)))=wrap64 (ae u i x:Int):=by
 show IntKind.i64.wrap ((BitVec.ofInt 64 (wrap64 (u:Int)) ||| BitVec.ofInt 64 (wrap64 ((x:Int)*2 ^ (8*i)))).toNat:Int) = _
 have e1:(BitVec.ofInt 64 (wrap64 (u:Int))).toNat=u:=by
  rw [BitVec.toNat_ofInt]
  unfold wrap64
  omega
 have e2:(BitVec.ofInt 64 (wrap64 ((x:Int)*2 ^ (8*i)))).toNat=x*2 ^ (8*i) % 18446744073709551616:=by
  rw [BitVec.toNat_ofInt]
  have e3:(x:Int)*2 ^ (8*i)=((x*2 ^ (8*i):Nat):Int):=by rw [Int.natCast_mul,Int.natCast_pow];rfl
  rw [e3]
  generalize x*2 ^ (8*i)=z
  unfold wrap64
  omega
 rw [BitVec.toNat_or,e1,e2,w64i]
 unfold ae
 rfl
theorem im_reight {b : Nat} {p : Option Addr} {c : Nat} {M : List UInt8} {k : Nat} {lost : Bool} {W : World} (h : RI b p c M k lost W) :
  Calls Try.prog 103 #[.pointer (some ⟨b,0,none⟩)] W (RQ b p c M k W (fun v k' lost'=>∃ x:Nat,v = .int .i64 (wrap64 (x:Int))∧x < 18446744073709551616∧(lost=true→lost'=true)∧∀ (y:Nat) rest,lost=false→y < 18446744073709551616→M.drop k=e8 y 8 ++ rest→x=y∧k'=k+8∧lost'=false)):=by
 have HH:Hid (RI b p c M k lost W):=h
 clear h
 go_enter Try.func103,Try.ntmps103
 go_wp2_with fail
 go_loopw [3,4] (fun s3 s4 wr=>∃ (u i k':Nat) (l':Bool) (z:Int),s3 = .int .i64 z∧s4 = .int .i64 ((8*i:Nat):Int)∧i≤8∧Hid (z=wrap64 (u:Int)∧u < 18446744073709551616∧RI b p c M k' l' wr∧k≤k'∧Kz b W wr∧(lost=true→l'=true)∧(lost=false→Ey M k false i u k' l'))) (fun _ s4 _=>64 - (intOf s4).toNat)
 case atStart=>exact ⟨0,0,k,lost,0,rfl,rfl,by omega,(⟨by unfold wrap64;omega,by omega,HH,Nat.le_refl _,Kz.refl _ _,id,fun e y rest hy hm=>⟨rfl,by rw [Nat.pow_zero,Nat.mod_one],e⟩⟩:(0:Int)=wrap64 ((0:Nat):Int)∧_)⟩
 case round =>
  obtain ⟨u,i,k',l',z,rfl,rfl,hi,HX⟩:=hrel
  rcases Nat.lt_or_ge i 8 with hi2 | hi2
  ·have hiI:(i:Int) < 8:=by omega
   have HB:=im_next (show _∧_∧_ from HX).2.2.1
   go_wp2_with fail
   refine HB.mono ?_
   rintro e w1 ⟨v1,k1,l1,rfl,z1,z2,z3,x,rfl,z4,z5,z6,z7,z8⟩
   obtain ⟨x0,x1,x2,x3,x4,x5,x6⟩:=(show _∧_∧_∧_∧_∧_∧_ from HX)
   have hO:bits BinOp.or IntKind.i64 z (wrap64 ((x:Int)*2 ^ (8*i)))=wrap64 (ae u i x:Int):=by rw [x0];exact sg_or i x x1 z4
   have hUl:=ae_lt (u:=u) i x x1
   obtain ⟨Z,hZ⟩:∃ Z:Int,Z=wrap64 (ae u i x:Int):=⟨_,rfl⟩
   rw [← hZ] at hO
   have hxI:(x:Int) < 256:=by omega
   have HR:Hid (Z=wrap64 (ae u i x:Int)∧ae u i x < 18446744073709551616∧RI b p c M k1 l1 w1∧k≤k1∧Kz b W w1∧(lost=true→l1=true)∧(lost=false→Ey M k false (i+1) (ae u i x) k1 l1)):=(⟨hZ,hUl,z1,Nat.le_trans x3 z2,x4.trans z3,fun e=>z7 (x5 e),fun e y rest hy hm=>by
    have hl:=(x6 e y rest hy hm).2.2
    have hg:=x6 e
    rw [hl] at hg
    have hn:Ey M k false (i+1) (ae u i x) k1 l1:=ey_next hi2 hg (fun y2 h2=>z8 y2 hl h2)
    exact hn y rest hy hm⟩:_∧_)
   clear HB HX x0 x1 x2 x3 x4 x5 x6 z1 z2 z3 z4 z5 z6 z7 z8 hUl hZ
   go_wp2_with fail
   go_roundw
   case rel=>exact ⟨ae u i x,i+1,k1,l1,Z,by first | rfl | exact congrArg (Value.int .i64) hO,by go_num,by omega,HR⟩
   case measure=>simp [intOf];omega
  ·obtain rfl:i=8:=by omega
   clear hi hi2
   go_wp2_with fail
   go_ret
   obtain ⟨x0,x1,x2,x3,x4,x5,x6⟩:=(show _∧_∧_∧_∧_∧_∧_ from HX)
   exact ⟨_,k',l',rfl,x2,x3,x4,u,by rw [← x0];rfl,x1,x5,fun y rest e hy hm=>by
    obtain ⟨q1,q2,q3⟩:=x6 e y rest hy hm
    exact ⟨by rw [q2,Nat.mod_eq_of_lt (by omega)],q1,q3⟩⟩
end Go.Proofs.Ytamcnmnaadpfoaa.Fo
