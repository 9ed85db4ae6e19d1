import Derived.Test.YtnmeemjoodoalaaGreatDoorNExf
set_option maxHeartbeats 8000000
namespace Go.Proofs.YtnmeemjoodoalaaGreatDoor.Fo
open Go.ChangeShapes Go.WideShapes Go.ChangeAt Go.RowKit
set_option linter.unusedVariables false
set_option maxRecDepth 100000
def adp (u i x : Nat) : Nat:=u ||| (x % 128 * 2 ^ (min (7 * i) 64) % 18446744073709551616)
theorem adp_eq (u x : Nat) {i : Nat} (h : i ≤ 9) : adp u i x = ad u i x:=by unfold adp ad;rw [show min (7 * i) 64 = 7 * i by omega]
theorem adp_lt {u : Nat} (i x : Nat) (h : u < 18446744073709551616) : adp u i x < 18446744073709551616:=Nat.or_lt_two_pow (n:=64) h (Nat.mod_lt _ (by decide))
theorem gy_nine {M : List UInt8} {k : Nat} {bad : Bool} {i u k' : Nat} {bad' : Bool} (h : Gy M k bad i u k' bad') {y : Nat} {rest : List UInt8} (hy : y < 18446744073709551616) (hm : M.drop k = vb y ++ rest) : i ≤ 9:=by
  obtain ⟨_,_,_,_,g5⟩:=h y rest hy hm
  rcases g5 with g5 | g5
  · omega
  · by_cases c : i ≤ 9
    · exact c
    · have : 128 ^ 10 ≤ 128 ^ i:=Nat.pow_le_pow_right (by decide) (by omega)
      have e : (18446744073709551616 : Nat) ≤ 128 ^ 10:=by decide
      omega
theorem gyp_next {M : List UInt8} {k : Nat} {bad : Bool} {i u k' : Nat} {bad' : Bool} {x k1 : Nat} {bad1 : Bool} (h : Gy M k bad i u k' bad') (hb : ∀ y,M[k']? = some y → x = y.toNat ∧ k1 = k' + 1 ∧ bad1 = bad') (hx : 128 ≤ x) : Gy M k bad (i + 1) (adp u i x) k1 bad1:=by
  intro y rest hy hm
  rw [adp_eq u x (gy_nine h hy hm)]
  exact gy_next h hb hx y rest hy hm
theorem gyp_end {M : List UInt8} {k : Nat} {bad : Bool} {i u k' : Nat} {bad' : Bool} {x k1 : Nat} {bad1 : Bool} (h : Gy M k bad i u k' bad') (hb : ∀ y,M[k']? = some y → x = y.toNat ∧ k1 = k' + 1 ∧ bad1 = bad') (hx : x < 128) {y : Nat} {rest : List UInt8} (hy : y < 18446744073709551616) (hm : M.drop k = vb y ++ rest) : adp u i x = y ∧ k1 = k + (vb y).length ∧ bad1 = bad:=by
  rw [adp_eq u x (gy_nine h hy hm)]
  exact gy_end h hb hx hy hm
theorem shl_any (x : Int) (yk : IntKind) (s : Nat) : Op.shift .shl .u64 x yk (s : Int) = pure (.int .u64 (IntKind.u64.wrap (x * 2 ^ (min s 64)))):=by
  simp [Op.shift,IntKind.bits]
  omega
theorem adp_bits {u : Nat} (i x : Nat) (h : u < 18446744073709551616) : bits BinOp.or IntKind.u64 (u : Int) (IntKind.u64.wrap (((x % 128 : Nat) : Int) * 2 ^ (min (7 * i) 64))) = (adp u i x : Int):=by
  have e : IntKind.u64.wrap (((x % 128 : Nat) : Int) * 2 ^ (min (7 * i) 64)) = ((x % 128 * 2 ^ (min (7 * i) 64) % 18446744073709551616 : Nat) : Int):=by
    rw [wrap_u64]
    generalize x % 128 = r
    rw [Int.natCast_emod,Int.natCast_mul,Int.natCast_pow]
    rfl
  rw [e,Go.u64_or_nat _ _ h (Nat.mod_lt _ (by decide))]
  rfl
theorem im_rgroups {b : Nat} {p : Option Addr} {c : Nat} {M : List UInt8} {k : Nat} {lost : Bool} {W : World} (h : RI b p c M k lost W) :
    Calls Tryz.prog 123 #[.pointer (some ⟨b,0,none⟩)] W (RQ b p c M k W (fun v k' lost'=>∃ u : Nat,v = .int .u64 (u : Int) ∧ u < 18446744073709551616 ∧ (lost' = false → k < k') ∧ (lost = true → lost' = true) ∧ ∀ y rest,lost = false → y < 18446744073709551616 → M.drop k = vb y ++ rest → u = y ∧ k' = k + (vb y).length ∧ lost' = false)):=by
  have hsz:=h.sz
  have HH : Hid (RI b p c M k lost W):=h
  clear h
  go_enter Tryz.func123,Tryz.ntmps123
  go_wp2_with fail
  go_loopw [3,4] (fun s3 s4 wr=>∃ (u i : Nat) (lost' : Bool),s3 = .int .u64 (u : Int) ∧ s4 = .int .i64 ((7 * i : Nat) : Int) ∧ i ≤ 1000000 ∧ Hid (u < 18446744073709551616 ∧ RI b p c M (k + i) lost' wr ∧ Kz b W wr ∧ (i = 0 ∧ lost' = lost ∨ lost' = false) ∧ (lost = true → lost' = true) ∧ (lost = false → Gy M k false i u (k + i) lost'))) (fun _ s4 _=>7000008 - (intOf s4).toNat)
  case atStart =>
    refine ⟨0,0,lost,rfl,rfl,by omega,(⟨by omega,HH,Kz.refl _ _,.inl ⟨rfl,rfl⟩,fun e=>e,fun e y rest hy hm=>⟨?_,?_,e,?_,.inl rfl⟩⟩ : _ ∧ _)⟩
    · rw [Nat.pow_zero,Nat.div_one];exact hm
    · rw [Nat.pow_zero,Nat.mod_one]
    · rw [Nat.pow_zero,Nat.div_one];rfl
  case round =>
    obtain ⟨u,i,lost',rfl,rfl,hi,HX⟩:=hrel
    have HB:=im_next (show _ ∧ _ from HX).2.1
    go_upto_region 5 with (go_at_call 124;refine HB.mono ?_;rintro e w1 ⟨v1,k1,l1,rfl,z1,z2,z3,x,rfl,z4,z5,z6,z7,z8⟩)
    obtain ⟨x1,x2,x3,x4,x5,x6⟩:=(show _ ∧ _ ∧ _ ∧ _ ∧ _ ∧ _ from HX)
    obtain ⟨V,hV⟩ : ∃ V : Int,V = IntKind.u64.wrap (((x % 128 : Nat) : Int) * 2 ^ (min (7 * i) 64)):=⟨_,rfl⟩
    have hS : ∀ w,(Op.shift BinOp.shl IntKind.u64 ((x : Int) % 128) IntKind.i64 (7 * (i : Int))).run Tryz.prog w = .ok (.int .u64 V) w:=fun w=>by
      have e:=shl_any ((x % 128 : Nat) : Int) .i64 (7 * i)
      rw [← hV] at e
      exact congrArg (fun m=>Sem.run Tryz.prog m w) e
    have hO : bits BinOp.or IntKind.u64 (u : Int) V = (adp u i x : Int):=by rw [hV];exact adp_bits i x x1
    have hUl:=adp_lt (u:=u) i x x1
    clear hV HB
    go_upto_region 6 with fail
    clear hS hO
    have hxI : (x : Int) < 256:=by omega
    have hb : lost' = false → ∀ y,M[k + i]? = some y → x = y.toNat ∧ k1 = k + i + 1 ∧ l1 = false:=fun e y hy=>z8 y e hy
    by_cases hx : (x : Int) < 128
    · have HQ : Hid (adp u i x < 18446744073709551616 ∧ RI b p c M k1 l1 w1 ∧ k ≤ k1 ∧ Kz b W w1 ∧ (l1 = false → k < k1) ∧ (lost = true → l1 = true) ∧ ∀ y rest, lost = false → y < 18446744073709551616 → M.drop k = vb y ++ rest → adp u i x = y ∧ k1 = k + (vb y).length ∧ l1 = false) := (⟨hUl, z1, by omega, x3.trans z3, fun e => by have := z5 e; omega, fun e => z7 (x5 e), fun y rest e hy hm => by
        have hg:=x6 e
        obtain ⟨_,_,g3,_,_⟩:=hg y rest hy hm
        exact gyp_end hg (fun y2 h2=>by rw [g3];exact hb g3 y2 h2) (by omega) hy hm⟩ : _ ∧ _)
      clear HX x1 x2 x3 x4 x5 x6 z1 z2 z3 z5 z6 z7 z8 hb hUl
      generalize adp u i x = U at *
      go_wp2_with fail
      go_ret
      obtain ⟨q0,q1,q2,q3,q4,q5,q6⟩:=(show _ ∧ _ ∧ _ ∧ _ ∧ _ ∧ _ ∧ _ from HQ)
      exact ⟨_,k1,l1,rfl,q1,q2,q3,U,rfl,q0,q4,q5,q6⟩
    · have hl : l1 = false := by
        cases l1 with
        | false=>rfl
        | true=>have:=z6 rfl;omega
      have hk:=z5 hl
      have HN : Hid (adp u i x < 18446744073709551616 ∧ RI b p c M (k + (i + 1)) false w1 ∧ Kz b W w1 ∧ (lost = true → false = true) ∧ (lost = false → Gy M k false (i + 1) (adp u i x) (k + (i + 1)) false)):=(⟨hUl,by rw [← hl,show k + (i + 1) = k1 by omega];exact z1,x3.trans z3,fun e=>by rw [← hl];exact z7 (x5 e),fun e=>by
        have hg:=x6 e
        have hlf : lost' = false:=by
          rcases x4 with ⟨_,h2⟩ | h2
          · rw [h2];exact e
          · exact h2
        rw [hlf] at hg
        rw [show k + (i + 1) = k + i + 1 by omega]
        exact gyp_next hg (fun y hy=>by obtain ⟨a1,a2,a3⟩:=hb hlf y hy;exact ⟨a1,rfl,rfl⟩) (by omega)⟩ : _ ∧ _)
      have hik : i + 1 ≤ 1000000:=by have:=z1.le;omega
      clear HX x1 x2 x3 x4 x5 x6 z1 z2 z3 z5 z6 z7 z8 hb hUl hk
      generalize adp u i x = U at *
      go_wp2_with fail
      go_roundw
      case rel=>exact ⟨U,i + 1,false,rfl,by go_num,hik,(⟨HN.1,HN.2.1,HN.2.2.1,.inr rfl,HN.2.2.2.1,HN.2.2.2.2⟩ : _ ∧ _)⟩
      case measure=>simp [intOf];omega
theorem im_rnum {b : Nat} {p : Option Addr} {c : Nat} {M : List UInt8} {k : Nat} {lost : Bool} {W : World} (h : RI b p c M k lost W) :
    Calls Tryz.prog 76 #[.pointer (some ⟨b,0,none⟩)] W (RQ b p c M k W (fun v k' lost'=>∃ x : Int,v = .int .i64 x ∧ Rn x ∧ (lost' = false → k < k') ∧ (lost = true → lost' = true) ∧ ∀ y rest,lost = false → Rn y → M.drop k = nb y ++ rest → x = y ∧ k' = k + (nb y).length ∧ lost' = false)):=by
  have HB:=im_rgroups h
  clear h
  go_enter Tryz.func76,Tryz.ntmps76
  go_upto_region 2 with (go_at_call 123;refine HB.mono ?_;rintro e w1 ⟨v1,k1,l1,rfl,z1,z2,z3,u,rfl,z4,z5,z6,z7⟩)
  have HQ : Hid (Rn (uz u) ∧ RI b p c M k1 l1 w1 ∧ k ≤ k1 ∧ Kz b W w1 ∧ (l1 = false → k < k1) ∧ (lost = true → l1 = true) ∧ ∀ y rest,lost = false → Rn y → M.drop k = nb y ++ rest → uz u = y ∧ k1 = k + (nb y).length ∧ l1 = false):=(⟨uz_rng z4,z1,z2,z3,z5,z6,fun y rest e hy hm=>by
    obtain ⟨q1,q2,q3⟩:=z7 (zz y) rest e (zz_lt hy.1 hy.2) hm
    exact ⟨by rw [q1,uz_zz],q2,q3⟩⟩ : _ ∧ _)
  have huI : (u : Int) < 18446744073709551616:=by omega
  clear HB z1 z2 z3 z4 z5 z6 z7
  rcases Nat.mod_two_eq_zero_or_one u with hm | hm
  · have HE : Hid (uz u = ((u / 2 : Nat) : Int)):=(by unfold uz;rw [if_neg (by omega)] : uz u = ((u / 2 : Nat) : Int))
    have hmI : (u : Int) % 2 = 0:=by omega
    clear hm
    go_wp2_with fail
    go_ret
    obtain ⟨q0,q1,q2,q3,q4,q5,q6⟩:=(show _ ∧ _ ∧ _ ∧ _ ∧ _ ∧ _ ∧ _ from HQ)
    exact ⟨_,k1,l1,rfl,q1,q2,q3,uz u,by rw [show uz u = _ from HE];rfl,q0,q4,q5,q6⟩
  · have HE : Hid (uz u = -((u / 2 : Nat) : Int) - 1):=(by unfold uz;rw [if_pos hm] : uz u = -((u / 2 : Nat) : Int) - 1)
    have hmI : (u : Int) % 2 = 1:=by omega
    clear hm
    go_wp2_with fail
    go_ret
    obtain ⟨q0,q1,q2,q3,q4,q5,q6⟩:=(show _ ∧ _ ∧ _ ∧ _ ∧ _ ∧ _ ∧ _ from HQ)
    exact ⟨_,k1,l1,rfl,q1,q2,q3,uz u,by rw [show uz u = _ from HE];rfl,q0,q4,q5,q6⟩
theorem im_rflag {b : Nat} {p : Option Addr} {c : Nat} {M : List UInt8} {k : Nat} {lost : Bool} {W : World} (h : RI b p c M k lost W) :
    Calls Tryz.prog 78 #[.pointer (some ⟨b,0,none⟩)] W (RQ b p c M k W (fun v k' lost'=>∃ x : Bool,v = .bool x ∧ (lost' = false → k < k') ∧ (lost = true → lost' = true) ∧ ∀ y rest,lost = false → M.drop k = fb y ++ rest → x = y ∧ k' = k + (fb y).length ∧ lost' = false)):=by
  have HB:=im_next h
  clear h
  go_enter Tryz.func78,Tryz.ntmps78
  go_wp2_with (go_at_call 124;refine HB.mono ?_;rintro e w1 ⟨v1,k1,l1,rfl,z1,z2,z3,x,rfl,z4,z5,z6,z7,z8⟩)
  go_ret
  refine ⟨_,k1,l1,rfl,z1,z2,z3,_,rfl,fun e=>by have:=z5 e;omega,z7,fun y rest e hm=>?_⟩
  unfold fb at hm ⊢
  rw [List.cons_append] at hm
  obtain ⟨q1,q2⟩:=drop_cons hm
  obtain ⟨r1,r2,r3⟩:=z8 _ e q1
  refine ⟨?_,r2,r3⟩
  rw [r1]
  cases y <;> decide
theorem conv_zero (q : Option Addr) (c : Nat) (w : World) : (convert 26 9 (.slice q 0 c)).run Tryz.prog w = .ok (.string ⟨#[]⟩) w:=by
  cases q with
  | some a=>exact run_convert_bytes_back w 26 9 5 a c [] Tryz.underlying26 Tryz.underlying5 Tryz.underlying9 (P:=Tryz.prog) (fun j hj=>by simp at hj)
  | none =>
    rw [run_convert_bytes_string w 26 9 5 none 0 c Tryz.underlying26 Tryz.underlying5 Tryz.underlying9]
    rfl
theorem conv_taken {b : Nat} {p : Option Addr} {c : Nat} {M : List UInt8} {k k2 : Nat} {l2 : Bool} {N : Nat} {w : World} (h : RI b p c M k2 l2 w) (hn : k + N ≤ M.length) : (convert 26 9 (.slice (if c = k then p else p.map (·.add k)) N (c - k))).run Tryz.prog w = .ok (.string ⟨((M.drop k).take N).toArray⟩) w:=by
  by_cases h0 : N = 0
  · subst h0
    rw [List.take_zero]
    exact conv_zero _ _ _
  · obtain ⟨a,rfl,h2,h3⟩:=h.row (by omega)
    have hcap:=h.cap
    rw [if_neg (by omega)]
    have e : ((M.drop k).take N).length = N:=by rw [List.length_take,List.length_drop];omega
    have:=run_convert_bytes_back w 26 9 5 (a.add k) (c - k) ((M.drop k).take N) Tryz.underlying26 Tryz.underlying5 Tryz.underlying9 (P:=Tryz.prog) (fun j hj=>?_)
    · rw [e] at this;exact this
    · have hj2 : j < N:=by rw [e] at hj;exact hj
      have hr:=h3 (k + j) (((M.drop k).take N)[j]) (by rw [List.getElem_take,List.getElem_drop];exact List.getElem?_eq_getElem (by omega))
      rw [Addr.add_add];exact hr
theorem im_rtext {b : Nat} {p : Option Addr} {c : Nat} {M : List UInt8} {k : Nat} {lost : Bool} {W : World} (h : RI b p c M k lost W) :
    Calls Tryz.prog 77 #[.pointer (some ⟨b,0,none⟩)] W (RQ b p c M k W (fun v k' lost'=>∃ x : ByteArray,v = .string x ∧ k + x.size ≤ k' ∧ (lost' = false → k < k') ∧ (lost = true → lost' = true) ∧ ∀ (y : ByteArray) rest,lost = false → y.size ≤ 9223372036854775807 → M.drop k = tb y ++ rest → x = y ∧ k' = k + (tb y).length ∧ lost' = false)):=by
  have HB:=im_rnum h
  clear h
  go_enter Tryz.func77,Tryz.ntmps77
  go_wp2_with (go_at_call 76;refine HB.mono ?_;rintro e w1 ⟨v1,k1,l1,rfl,z1,z2,z3,n,rfl,z4,z5,z6,z7⟩)
  clear HB
  by_cases hf : l1 = false ∧ 0 ≤ n ∧ n ≤ (M.length : Int) - (k1 : Int)
  · obtain ⟨rfl,hn0,hn1⟩:=hf
    obtain ⟨N,rfl⟩ : ∃ N : Nat,n = (N : Int):=⟨n.toNat,by omega⟩
    refine (im_take_fits N z1 (by omega)).mono ?_
    rintro e w2 ⟨⟨q,rfl,hq⟩,y1,y2⟩
    have hcv:=conv_taken (k:=k1) (N:=N) y1 (by omega)
    rw [← hq] at hcv
    have HX : Hid (∃ X : ByteArray,X = ⟨((M.drop k1).take N).toArray⟩ ∧ RI b p c M (k1 + N) false w2 ∧ k ≤ k1 + N ∧ Kz b W w2 ∧ k + X.size ≤ k1 + N ∧ (false = false → k < k1 + N) ∧ (lost = true → false = true) ∧ ∀ (y : ByteArray) rest,lost = false → y.size ≤ 9223372036854775807 → M.drop k = tb y ++ rest → X = y ∧ k1 + N = k + (tb y).length ∧ false = false):=(⟨_,rfl,y1,by omega,z3.trans y2,by rw [ba_size,List.length_take];omega,fun _=>by have:=z5 rfl;omega,z6,fun y rest e h1 hm=>by
      unfold tb at hm ⊢
      rw [List.append_assoc] at hm
      obtain ⟨q1,q2,q3⟩:=z7 y.size (y.data.toList ++ rest) e ⟨by omega,by omega⟩ hm
      have q4:=drop_app hm
      rw [← q2] at q4
      refine ⟨?_,by rw [List.length_append,sz_len];omega,rfl⟩
      rw [q4,show N = y.size by omega,← sz_len,List.take_left]⟩ : ∃ X : ByteArray,_)
    clear z1 z2 z3 z5 z6 z7 y1 y2 hq
    go_wp2_with fail
    go_ret
    obtain ⟨X,e,x1,x2,x3,x4,x5,x6,x7⟩:=(show ∃ X : ByteArray,_ from HX)
    exact ⟨_,k1 + N,false,rfl,x1,x2,x3,X,by rw [e];rfl,x4,fun _=>x5 trivial,x6,fun y rest e h1 hm=>by obtain ⟨r1,r2,_⟩:=x7 y rest e h1 hm;exact ⟨r1,r2,rfl⟩⟩
  · refine (im_take_not n z1 (by
      cases l1 with
      | true=>exact .inl rfl
      | false =>
        by_cases c0 : n < 0
        · exact .inr (.inl c0)
        · exact .inr (.inr (by have : ¬ n ≤ (M.length : Int) - (k1 : Int):=fun e=>hf ⟨rfl,by omega,e⟩;omega)))).mono ?_
    rintro e w2 ⟨rfl,y1,y2⟩
    have hcv:=conv_zero none 0 w2
    have HX : Hid (RI b p c M k1 true w2 ∧ k ≤ k1 ∧ Kz b W w2 ∧ ∀ (y : ByteArray) rest,lost = false → y.size ≤ 9223372036854775807 → M.drop k = tb y ++ rest → False):=(⟨y1,z2,z3.trans y2,fun y rest e h1 hm=>by
      unfold tb at hm
      rw [List.append_assoc] at hm
      obtain ⟨q1,q2,q3⟩:=z7 y.size (y.data.toList ++ rest) e ⟨by omega,by omega⟩ hm
      have q4:=drop_len (drop_app hm)
      rw [← q2,List.length_append,sz_len] at q4
      have:=z1.le
      exact hf ⟨q3,by omega,by omega⟩⟩ : _ ∧ _)
    clear z1 z2 z3 z5 z6 z7 y1 y2 hf
    go_wp2_with fail
    go_ret
    obtain ⟨x1,x2,x3,x4⟩:=(show _ ∧ _ ∧ _ ∧ _ from HX)
    exact ⟨_,k1,true,rfl,x1,x2,x3,⟨#[]⟩,rfl,x2,(fun e=>(nomatch e)),fun _=>rfl,fun y rest e h1 hm=>(x4 y rest e h1 hm).elim⟩
theorem RI.lt {b : Nat} {p : Option Addr} {c : Nat} {M : List UInt8} {k : Nat} {lost : Bool} {W : World} (h : RI b p c M k lost W) : b < W.heap.size:=(Array.getElem?_eq_some_iff.1 h.blk).1
theorem RI.ks {b : Nat} {p : Option Addr} {c : Nat} {M : List UInt8} {k : Nat} {lost : Bool} {W w' : World} (h : RI b p c M k lost W) (z : Kx b W w') (hb : w'.heap[b]? = W.heap[b]?) : RI b p c M k lost w' :=
  ⟨hb.trans h.blk,h.le,h.sz,h.cap,fun hm=>by
    obtain ⟨a,h1,h2,h3⟩:=h.row hm
    refine ⟨a,h1,h2,fun i x hx=>?_⟩
    have hr:=h3 i x hx
    have hl : a.block < W.heap.size:=by have:=lt_of_cell' hr;rw [add_block] at this;exact this
    exact (World.cell?_of_block (by rw [add_block];exact z.block _ hl h2)).trans hr⟩
theorem RI.kb {b : Nat} {p : Option Addr} {c : Nat} {M : List UInt8} {k : Nat} {lost : Bool} {W w' : World} (h : RI b p c M k lost W) (z : Kb 0 W w') : RI b p c M k lost w':=h.ks (Kx.of_kb z) (z.block _ (Nat.zero_le _) h.lt)
def RU (b : Nat) (p : Option Addr) (c : Nat) (M : List UInt8) (k : Nat) (W : World) (Q : Value → Nat → Bool → Prop) (e : Ending) (w' : World) : Prop:=∃ v k' lost',e = .returned v ∧ RI b p c M k' lost' w' ∧ k ≤ k' ∧ Kx b W w' ∧ Q v k' lost'
theorem im_rup {b : Nat} {p : Option Addr} {c : Nat} {M : List UInt8} {k : Nat} {lost : Bool} {W : World} (h : RI b p c M k lost W) :
    Calls Tryz.prog 80 #[.pointer (some ⟨b,0,none⟩)] W (RU b p c M k W (fun v k' lost'=>∃ x : Bool × Int,v = upv x ∧ Rn x.2 ∧ (lost' = false → k < k') ∧ (lost = true → lost' = true) ∧ ∀ y rest,lost = false → Rn y.2 → M.drop k = ub y ++ rest → x = y ∧ k' = k + (ub y).length ∧ lost' = false)):=by
  have HB:=im_rflag (h.kb (kb_alloc 0 W (.cells #[.bool false,.int .i64 0] 89)))
  have hb:=h.lt
  have HH : Hid (RI b p c M k lost W):=h
  obtain ⟨g,hg⟩ : ∃ g,g = W.heap.size:=⟨_,rfl⟩
  clear h
  go_enter Tryz.func80,Tryz.ntmps80
  go_wp2_with (go_at_call 78;refine HB.mono ?_;rintro e w1 ⟨v1,k1,l1,rfl,z1,z2,z3,x,rfl,z5,z6,z7⟩)
  refine (im_rnum z1).mono ?_
  rintro e w2 ⟨v2,k2,l2,rfl,y1,y2,y3,n,rfl,y4,y5,y6,y7⟩
  have z : Kz b (W.alloc (.cells #[.bool false,.int .i64 0] 89)) w2:=z3.trans y3
  have bg : w2.heap[W.heap.size]? = some (.cells #[.bool false,.int .i64 0] 89 (0,0)):=(z.block _ (by omega)).trans (alloc_new _ _ _)
  have d0 : w2.cell? ⟨W.heap.size,0,none⟩ = some (.bool false):=cell_of bg rfl
  have d1 : w2.cell? ⟨W.heap.size,1,none⟩ = some (.int .i64 0):=cell_of bg rfl
  have d2 : ∀ j : Nat,w2.frozen? ⟨W.heap.size,j,none⟩ = false:=fun j=>frozen_of bg
  have HQ : Hid (∀ v0 v1 : Value,RI b p c M k2 l2 ((w2.setCell ⟨W.heap.size,0,none⟩ v0).setCell ⟨W.heap.size,1,none⟩ v1) ∧ Kx b W ((w2.setCell ⟨W.heap.size,0,none⟩ v0).setCell ⟨W.heap.size,1,none⟩ v1)):=(fun v0 v1=>by
    have zs : Kx b W w2:=(Kx.of_kb (kb_alloc 0 W _)).trans z.ks
    refine ⟨?_,(zs.setNew (Nat.le_refl _) v0).setNew (Nat.le_refl _) v1⟩
    have zk : Kz W.heap.size w2 ((w2.setCell ⟨W.heap.size,0,none⟩ v0).setCell ⟨W.heap.size,1,none⟩ v1):=((Kz.refl _ w2).set 0 v0).set 1 v1
    refine ⟨(zk.block b (by omega)).trans y1.blk,y1.le,y1.sz,y1.cap,fun hm=>?_⟩
    obtain ⟨a,h1,h2,h3⟩:=y1.row hm
    obtain ⟨a',h1',_,h3'⟩:=(show RI b p c M k lost W from HH).row hm
    obtain rfl : a = a':=by rw [h1] at h1';injection h1'
    have hl : a.block < W.heap.size:=by have:=lt_of_cell' (h3' 0 _ (List.getElem?_eq_getElem hm));rw [add_block] at this;exact this
    exact ⟨a,h1,h2,fun i x hx=>(World.cell?_of_block (by rw [add_block];exact zk.block _ (by omega))).trans (h3 i x hx)⟩ : ∀ v0 v1 : Value,_)
  have HE : Hid (Rn n ∧ k ≤ k2 ∧ (l2 = false → k < k2) ∧ (lost = true → l2 = true) ∧ ∀ y rest,lost = false → Rn y.2 → M.drop k = ub y ++ rest → (x,n) = y ∧ k2 = k + (ub y).length ∧ l2 = false):=(⟨y4,by omega,fun e=>by have:=y5 e;omega,fun e=>y6 (z6 e),fun y rest e hy hm=>by
    unfold ub at hm ⊢
    rw [List.append_assoc] at hm
    obtain ⟨q1,q2,q3⟩:=z7 y.1 _ e hm
    have q4:=drop_app hm
    rw [← q2] at q4
    obtain ⟨r1,r2,r3⟩:=y7 y.2 rest q3 hy q4
    exact ⟨by rw [q1,r1],by rw [List.length_append];omega,r3⟩⟩ : _ ∧ _)
  clear HB z1 z2 z3 z5 z6 z7 y1 y2 y3 y4 y5 y6 y7 z bg
  go_wp2_with fail
  refine bodyPost_ret (by simp [results,Tryz.results80,go_sem,d0,d1];rfl) rfl ?_
  obtain ⟨o1,o2⟩:=(show ∀ v0 v1 : Value,_ from HQ) (.bool x) (.int .i64 n)
  obtain ⟨q1,q2,q3,q4,q5⟩:=(show _ ∧ _ ∧ _ ∧ _ ∧ _ from HE)
  exact ⟨_,k2,l2,rfl,o1,q2,o2,(x,n),rfl,q1,q3,q4,q5⟩
def Ri (x : Iv) : Prop:=Rn x.o ∧ Rn x.a ∧ Rn x.b ∧ Rn x.c ∧ Rn x.d
def Rm (x : Mv) : Prop:=x.x.size ≤ 1000000 ∧ Rn x.g ∧ Rn x.f ∧ Rn x.t
theorem RI.row_lt {b : Nat} {p : Option Addr} {c : Nat} {M : List UInt8} {k : Nat} {lost : Bool} {W : World} (h : RI b p c M k lost W) (hm : 0 < M.length) {a : Addr} (e : p = some a) : a.block < W.heap.size:=by
  obtain ⟨a',h1,_,h3⟩:=h.row hm
  obtain rfl : a = a':=by rw [e] at h1;injection h1
  have:=lt_of_cell' (h3 0 _ (List.getElem?_eq_getElem hm));rw [add_block] at this;exact this
theorem RI.kg {b : Nat} {p : Option Addr} {c : Nat} {M : List UInt8} {k : Nat} {lost : Bool} {W w2 : World} {k2 : Nat} {l2 : Bool} {g : Nat} {w3 : World} (h : RI b p c M k lost W) (y : RI b p c M k2 l2 w2) (z : Kz g w2 w3) (hg : W.heap.size ≤ g) : RI b p c M k2 l2 w3:=by
  have hb:=h.lt
  refine ⟨(z.block b (by omega)).trans y.blk,y.le,y.sz,y.cap,fun hm=>?_⟩
  obtain ⟨a,h1,h2,h3⟩:=y.row hm
  have hl:=h.row_lt hm h1
  exact ⟨a,h1,h2,fun i x hx=>(World.cell?_of_block (by rw [add_block];exact z.block _ (by omega))).trans (h3 i x hx)⟩
theorem im_rins {b : Nat} {p : Option Addr} {c : Nat} {M : List UInt8} {k : Nat} {lost : Bool} {W : World} (h : RI b p c M k lost W) :
    Calls Tryz.prog 84 #[.pointer (some ⟨b,0,none⟩)] W (RU b p c M k W (fun v k' lost'=>∃ x : Iv,v = insv x ∧ Ri x ∧ (lost' = false → k < k') ∧ (lost = true → lost' = true) ∧ ∀ y rest,lost = false → Ri y → M.drop k = ib y ++ rest → x = y ∧ k' = k + (ib y).length ∧ lost' = false)):=by
  have HB:=im_rnum (h.kb (kb_alloc 0 W (.cells #[.int .i64 0,.int .i64 0,.int .i64 0,.int .i64 0,.int .i64 0] 81)))
  have hb:=h.lt
  have HH : Hid (RI b p c M k lost W):=h
  clear h
  go_enter Tryz.func84,Tryz.ntmps84
  go_wp2_with (go_at_call 76;refine HB.mono ?_;rintro e w0 ⟨v0,k0,l0,rfl,z0a,z0b,z0c,x0,rfl,z0d,z0e,z0f,z0g⟩)
  refine (im_rnum z0a).mono ?_
  rintro e w1 ⟨v1,k1,l1,rfl,z1a,z1b,z1c,x1,rfl,z1d,z1e,z1f,z1g⟩
  go_wp2_with fail
  refine (im_rnum z1a).mono ?_
  rintro e w2 ⟨v2,k2,l2,rfl,z2a,z2b,z2c,x2,rfl,z2d,z2e,z2f,z2g⟩
  go_wp2_with fail
  refine (im_rnum z2a).mono ?_
  rintro e w3 ⟨v3,k3,l3,rfl,z3a,z3b,z3c,x3,rfl,z3d,z3e,z3f,z3g⟩
  go_wp2_with fail
  refine (im_rnum z3a).mono ?_
  rintro e w4 ⟨v4,k4,l4,rfl,z4a,z4b,z4c,x4,rfl,z4d,z4e,z4f,z4g⟩
  have z : Kz b (W.alloc (.cells #[.int .i64 0,.int .i64 0,.int .i64 0,.int .i64 0,.int .i64 0] 81)) w4:=((((z0c.trans z1c).trans z2c).trans z3c).trans z4c)
  have bg : w4.heap[W.heap.size]? = some (.cells #[.int .i64 0,.int .i64 0,.int .i64 0,.int .i64 0,.int .i64 0] 81 (0,0)):=(z.block _ (by omega)).trans (alloc_new _ _ _)
  have d0 : w4.cell? ⟨W.heap.size,0,none⟩ = some (.int .i64 0):=cell_of bg rfl
  have d1 : w4.cell? ⟨W.heap.size,1,none⟩ = some (.int .i64 0):=cell_of bg rfl
  have d2 : w4.cell? ⟨W.heap.size,2,none⟩ = some (.int .i64 0):=cell_of bg rfl
  have d3 : w4.cell? ⟨W.heap.size,3,none⟩ = some (.int .i64 0):=cell_of bg rfl
  have d4 : w4.cell? ⟨W.heap.size,4,none⟩ = some (.int .i64 0):=cell_of bg rfl
  have df : ∀ j : Nat,w4.frozen? ⟨W.heap.size,j,none⟩ = false:=fun j=>frozen_of bg
  have HQ : Hid (∀ u0 u1 u2 u3 u4 : Value,RI b p c M k4 l4 (((((w4.setCell ⟨W.heap.size,0,none⟩ u0).setCell ⟨W.heap.size,1,none⟩ u1).setCell ⟨W.heap.size,2,none⟩ u2).setCell ⟨W.heap.size,3,none⟩ u3).setCell ⟨W.heap.size,4,none⟩ u4) ∧ Kx b W (((((w4.setCell ⟨W.heap.size,0,none⟩ u0).setCell ⟨W.heap.size,1,none⟩ u1).setCell ⟨W.heap.size,2,none⟩ u2).setCell ⟨W.heap.size,3,none⟩ u3).setCell ⟨W.heap.size,4,none⟩ u4)):=(fun u0 u1 u2 u3 u4=>by
    have zs : Kx b W w4:=(Kx.of_kb (kb_alloc 0 W _)).trans z.ks
    refine ⟨?_,(((((zs.setNew (Nat.le_refl _) u0).setNew (Nat.le_refl _) u1).setNew (Nat.le_refl _) u2).setNew (Nat.le_refl _) u3).setNew (Nat.le_refl _) u4)⟩
    have zk : Kz W.heap.size w4 (((((w4.setCell ⟨W.heap.size,0,none⟩ u0).setCell ⟨W.heap.size,1,none⟩ u1).setCell ⟨W.heap.size,2,none⟩ u2).setCell ⟨W.heap.size,3,none⟩ u3).setCell ⟨W.heap.size,4,none⟩ u4):=((((((Kz.refl _ w4).set 0 u0).set 1 u1).set 2 u2).set 3 u3).set 4 u4)
    exact (show RI b p c M k lost W from HH).kg z4a zk (Nat.le_refl _) : ∀ u0 u1 u2 u3 u4 : Value,_)
  have hE : (Ri ⟨x0,x1,x2,x3,x4⟩ ∧ k ≤ k4 ∧ (l4 = false → k < k4) ∧ (lost = true → l4 = true) ∧ ∀ y rest,lost = false → Ri y → M.drop k = ib y ++ rest → ⟨x0,x1,x2,x3,x4⟩ = y ∧ k4 = k + (ib y).length ∧ l4 = false):=by
    refine ⟨⟨z0d,z1d,z2d,z3d,z4d⟩,by omega,fun e=>by have:=z4e e;omega,fun e=>z4f (z3f (z2f (z1f (z0f (e))))),fun y rest e hy hm=>?_⟩
    obtain ⟨hy0,hy1,hy2,hy3,hy4⟩:=hy
    unfold ib at hm ⊢
    simp only [List.append_assoc] at hm
    obtain ⟨q0a,q0b,q0c⟩:=z0g y.o _ e hy0 hm
    replace hm:=drop_app hm
    rw [← q0b] at hm
    obtain ⟨q1a,q1b,q1c⟩:=z1g y.a _ q0c hy1 hm
    replace hm:=drop_app hm
    rw [← q1b] at hm
    obtain ⟨q2a,q2b,q2c⟩:=z2g y.b _ q1c hy2 hm
    replace hm:=drop_app hm
    rw [← q2b] at hm
    obtain ⟨q3a,q3b,q3c⟩:=z3g y.c _ q2c hy3 hm
    replace hm:=drop_app hm
    rw [← q3b] at hm
    obtain ⟨q4a,q4b,q4c⟩:=z4g y.d _ q3c hy4 hm
    refine ⟨?_,by simp only [List.length_append];omega,q4c⟩
    rw [q0a,q1a,q2a,q3a,q4a]
  have HE : Hid _:=hE
  clear hE HB z0a z0b z0c z0d z0e z0f z0g z1a z1b z1c z1d z1e z1f z1g z2a z2b z2c z2d z2e z2f z2g z3a z3b z3c z3d z3e z3f z3g z4a z4b z4c z4d z4e z4f z4g z bg
  go_wp2_with fail
  refine bodyPost_ret (by simp [results,Tryz.results84,go_sem,d0,d1,d2,d3,d4];rfl) rfl ?_
  obtain ⟨o1,o2⟩:=(show ∀ u0 u1 u2 u3 u4 : Value,_ from HQ) (.int .i64 x0) (.int .i64 x1) (.int .i64 x2) (.int .i64 x3) (.int .i64 x4)
  obtain ⟨q1,q2,q3,q4,q5⟩:=(show _ ∧ _ ∧ _ ∧ _ ∧ _ from HE)
  exact ⟨_,k4,l4,rfl,o1,q2,o2,⟨x0,x1,x2,x3,x4⟩,rfl,q1,q3,q4,q5⟩
theorem im_rnamed {b : Nat} {p : Option Addr} {c : Nat} {M : List UInt8} {k : Nat} {lost : Bool} {W : World} (h : RI b p c M k lost W) :
    Calls Tryz.prog 86 #[.pointer (some ⟨b,0,none⟩)] W (RU b p c M k W (fun v k' lost'=>∃ x : Mv,v = namv x ∧ Rm x ∧ (lost' = false → k < k') ∧ (lost = true → lost' = true) ∧ ∀ y rest,lost = false → Rm y → M.drop k = mb y ++ rest → x = y ∧ k' = k + (mb y).length ∧ lost' = false)):=by
  have HB:=im_rtext (h.kb (kb_alloc 0 W (.cells #[.string ⟨#[]⟩,.int .i64 0,.int .i64 0,.int .i64 0] 97)))
  have hb:=h.lt
  have HH : Hid (RI b p c M k lost W):=h
  clear h
  go_enter Tryz.func86,Tryz.ntmps86
  go_wp2_with (go_at_call 77;refine HB.mono ?_;rintro e w0 ⟨v0,k0,l0,rfl,z0a,z0b,z0c,x0,rfl,z0d,z0e,z0f,z0g⟩)
  refine (im_rnum z0a).mono ?_
  rintro e w1 ⟨v1,k1,l1,rfl,z1a,z1b,z1c,x1,rfl,z1d,z1e,z1f,z1g⟩
  go_wp2_with fail
  refine (im_rnum z1a).mono ?_
  rintro e w2 ⟨v2,k2,l2,rfl,z2a,z2b,z2c,x2,rfl,z2d,z2e,z2f,z2g⟩
  go_wp2_with fail
  refine (im_rnum z2a).mono ?_
  rintro e w3 ⟨v3,k3,l3,rfl,z3a,z3b,z3c,x3,rfl,z3d,z3e,z3f,z3g⟩
  have z : Kz b (W.alloc (.cells #[.string ⟨#[]⟩,.int .i64 0,.int .i64 0,.int .i64 0] 97)) w3:=(((z0c.trans z1c).trans z2c).trans z3c)
  have bg : w3.heap[W.heap.size]? = some (.cells #[.string ⟨#[]⟩,.int .i64 0,.int .i64 0,.int .i64 0] 97 (0,0)):=(z.block _ (by omega)).trans (alloc_new _ _ _)
  have d0 : w3.cell? ⟨W.heap.size,0,none⟩ = some (.string ⟨#[]⟩):=cell_of bg rfl
  have d1 : w3.cell? ⟨W.heap.size,1,none⟩ = some (.int .i64 0):=cell_of bg rfl
  have d2 : w3.cell? ⟨W.heap.size,2,none⟩ = some (.int .i64 0):=cell_of bg rfl
  have d3 : w3.cell? ⟨W.heap.size,3,none⟩ = some (.int .i64 0):=cell_of bg rfl
  have df : ∀ j : Nat,w3.frozen? ⟨W.heap.size,j,none⟩ = false:=fun j=>frozen_of bg
  have HQ : Hid (∀ u0 u1 u2 u3 : Value,RI b p c M k3 l3 ((((w3.setCell ⟨W.heap.size,0,none⟩ u0).setCell ⟨W.heap.size,1,none⟩ u1).setCell ⟨W.heap.size,2,none⟩ u2).setCell ⟨W.heap.size,3,none⟩ u3) ∧ Kx b W ((((w3.setCell ⟨W.heap.size,0,none⟩ u0).setCell ⟨W.heap.size,1,none⟩ u1).setCell ⟨W.heap.size,2,none⟩ u2).setCell ⟨W.heap.size,3,none⟩ u3)):=(fun u0 u1 u2 u3=>by
    have zs : Kx b W w3:=(Kx.of_kb (kb_alloc 0 W _)).trans z.ks
    refine ⟨?_,((((zs.setNew (Nat.le_refl _) u0).setNew (Nat.le_refl _) u1).setNew (Nat.le_refl _) u2).setNew (Nat.le_refl _) u3)⟩
    have zk : Kz W.heap.size w3 ((((w3.setCell ⟨W.heap.size,0,none⟩ u0).setCell ⟨W.heap.size,1,none⟩ u1).setCell ⟨W.heap.size,2,none⟩ u2).setCell ⟨W.heap.size,3,none⟩ u3):=(((((Kz.refl _ w3).set 0 u0).set 1 u1).set 2 u2).set 3 u3)
    exact (show RI b p c M k lost W from HH).kg z3a zk (Nat.le_refl _) : ∀ u0 u1 u2 u3 : Value,_)
  have hE : (Rm ⟨x0,x1,x2,x3⟩ ∧ k ≤ k3 ∧ (l3 = false → k < k3) ∧ (lost = true → l3 = true) ∧ ∀ y rest,lost = false → Rm y → M.drop k = mb y ++ rest → ⟨x0,x1,x2,x3⟩ = y ∧ k3 = k + (mb y).length ∧ l3 = false):=by
    have hx0 : x0.size ≤ 1000000:=by have:=z0d;have:=z0a.le;have:=z0a.sz;omega
    refine ⟨⟨hx0,z1d,z2d,z3d⟩,by omega,fun e=>by have:=z3e e;omega,fun e=>z3f (z2f (z1f (z0f (e)))),fun y rest e hy hm=>?_⟩
    obtain ⟨hy0,hy1,hy2,hy3⟩:=hy
    unfold mb at hm ⊢
    simp only [List.append_assoc] at hm
    obtain ⟨q0a,q0b,q0c⟩:=z0g y.x _ e (Nat.le_trans hy0 (by omega)) hm
    replace hm:=drop_app hm
    rw [← q0b] at hm
    obtain ⟨q1a,q1b,q1c⟩:=z1g y.g _ q0c hy1 hm
    replace hm:=drop_app hm
    rw [← q1b] at hm
    obtain ⟨q2a,q2b,q2c⟩:=z2g y.f _ q1c hy2 hm
    replace hm:=drop_app hm
    rw [← q2b] at hm
    obtain ⟨q3a,q3b,q3c⟩:=z3g y.t _ q2c hy3 hm
    refine ⟨?_,by simp only [List.length_append];omega,q3c⟩
    rw [q0a,q1a,q2a,q3a]
  have HE : Hid _:=hE
  clear hE HB z0a z0b z0c z0d z0e z0f z0g z1a z1b z1c z1d z1e z1f z1g z2a z2b z2c z2d z2e z2f z2g z3a z3b z3c z3d z3e z3f z3g z bg
  go_wp2_with fail
  refine bodyPost_ret (by simp [results,Tryz.results86,go_sem,d0,d1,d2,d3];rfl) rfl ?_
  obtain ⟨o1,o2⟩:=(show ∀ u0 u1 u2 u3 : Value,_ from HQ) (.string x0) (.int .i64 x1) (.int .i64 x2) (.int .i64 x3)
  obtain ⟨q1,q2,q3,q4,q5⟩:=(show _ ∧ _ ∧ _ ∧ _ ∧ _ from HE)
  exact ⟨_,k3,l3,rfl,o1,q2,o2,⟨x0,x1,x2,x3⟩,rfl,q1,q3,q4,q5⟩
def ls {α : Type} (enc : α → List UInt8) (ys : List α) : List UInt8:=nb (ys.length : Int) ++ ys.flatMap enc
def LX {α : Type} (enc : α → List UInt8) (ok : α → Prop) (M : List UInt8) (k : Nat) (lost : Bool) (most : Nat) (L : List α) (k' : Nat) (lost' : Bool) : Prop :=
  ∀ ys rest,lost = false → (∀ y,y ∈ ys → ok y) → ys.length ≤ most → M.drop k = ls enc ys ++ rest → L = ys ∧ k' = k + (ls enc ys).length ∧ lost' = false
def LJ {α : Type} (enc : α → List UInt8) (ok : α → Prop) (M : List UInt8) (k : Nat) (lost : Bool) (most : Nat) (cnt : Int) (L : List α) (k' : Nat) (lost' : Bool) : Prop :=
  ∀ ys rest,lost = false → (∀ y,y ∈ ys → ok y) → ys.length ≤ most → M.drop k = ls enc ys ++ rest → cnt = (ys.length : Int) ∧ lost' = false ∧ ∃ suf,ys = L ++ suf ∧ M.drop k' = suf.flatMap enc ++ rest ∧ k' = k + (nb (ys.length : Int)).length + (L.flatMap enc).length
theorem LJ.zero {α : Type} {enc : α → List UInt8} {ok : α → Prop} {M : List UInt8} {k : Nat} {lost : Bool} {most : Nat} {cnt : Int} {k1 : Nat} {l1 l2 : Bool} (hm : most ≤ 9223372036854775807)
    (h : ∀ y rest,lost = false → Rn y → M.drop k = nb y ++ rest → cnt = y ∧ k1 = k + (nb y).length ∧ l1 = false) (hl : l1 = false → ¬ ((most : Int) < cnt) → l2 = false) : LJ enc ok M k lost most cnt [] k1 l2:=by
  intro ys rest e hy hn hd
  unfold ls at hd
  rw [List.append_assoc] at hd
  obtain ⟨q1,q2,q3⟩:=h (ys.length : Int) _ e ⟨by omega,by omega⟩ hd
  have hd2:=drop_app hd
  rw [← q2] at hd2
  exact ⟨q1,hl q3 (by omega),ys,rfl,hd2,by rw [q2];rfl⟩
theorem LJ.step {α : Type} {enc : α → List UInt8} {ok : α → Prop} {M : List UInt8} {k : Nat} {lost : Bool} {most : Nat} {cnt : Int} {L : List α} {k1 : Nat} {l1 : Bool} {x : α} {k2 : Nat} {l2 : Bool} (h : LJ enc ok M k lost most cnt L k1 l1) (hc : (L.length : Int) < cnt)
    (hx : ∀ y rest,l1 = false → ok y → M.drop k1 = enc y ++ rest → x = y ∧ k2 = k1 + (enc y).length ∧ l2 = false) : LJ enc ok M k lost most cnt (L ++ [x]) k2 l2:=by
  intro ys rest e hy hn hd
  obtain ⟨q1,q2,suf,rfl,q4,q5⟩:=h ys rest e hy hn hd
  cases suf with
  | nil=>rw [List.append_nil] at q1;omega
  | cons y suf =>
    rw [List.flatMap_cons,List.append_assoc] at q4
    obtain ⟨r1,r2,r3⟩:=hx y _ q2 (hy y (by simp)) q4
    subst r1
    have q6:=drop_app q4
    rw [← r2] at q6
    exact ⟨q1,r3,suf,by simp,q6,by rw [r2,q5,List.flatMap_append,List.length_append];simp;omega⟩
theorem LJ.done {α : Type} {enc : α → List UInt8} {ok : α → Prop} {M : List UInt8} {k : Nat} {lost : Bool} {most : Nat} {cnt : Int} {L : List α} {k1 : Nat} {l1 : Bool} (h : LJ enc ok M k lost most cnt L k1 l1) (hc : ¬ ((L.length : Int) < cnt ∧ l1 = false)) : LX enc ok M k lost most L k1 l1:=by
  intro ys rest e hy hn hd
  obtain ⟨q1,q2,suf,rfl,q4,q5⟩:=h ys rest e hy hn hd
  cases suf with
  | nil =>
    rw [List.append_nil] at q5 ⊢
    refine ⟨rfl,?_,q2⟩
    unfold ls
    rw [List.length_append]
    omega
  | cons y suf=>exact (hc ⟨by rw [q1,List.length_append,List.length_cons];omega,q2⟩).elim
theorem ct_list {α : Type} (enc : α → List UInt8) (Y : Nat → α) : ∀ n,ct (fun i=>enc (Y i)) n = ((List.range n).map Y).flatMap enc
  | 0=>rfl
  | n + 1=>by
    show ct (fun i=>enc (Y i)) n ++ enc (Y n) = _
    rw [ct_list enc Y n,List.range_succ,List.map_append,List.flatMap_append]
    simp
theorem lb_ls {α : Type} (enc : α → List UInt8) (Y : Nat → α) (n : Nat) : lb (fun i=>enc (Y i)) n = ls enc ((List.range n).map Y):=by
  unfold lb ls
  rw [ct_list,List.length_map,List.length_range]
end Go.Proofs.YtnmeemjoodoalaaGreatDoor.Fo
