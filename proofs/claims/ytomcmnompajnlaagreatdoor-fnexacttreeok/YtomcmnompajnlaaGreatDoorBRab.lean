import Derived.Test.YtomcmnompajnlaaGreatDoorBShc
set_option maxRecDepth 100000
set_option maxHeartbeats 8000000
namespace Go.Proofs.YtomcmnompajnlaaGreatDoor.Rd
open Go.ChangeShapes Go.WideShapes Go.ChangeAt Go.RowKit Go.Proofs.YtomcmnompajnlaaGreatDoor
set_option linter.unusedVariables false
theorem uint_10 (T : ByteArray) (L : List UInt8) (hT : T.data.toList = L) (hlen : L.length ≤ 1200) (hd : ∀ c ∈ L, dv c < 10) (hne : 0 < L.length) (w : World) :
    Calls Tryz.prog 196 #[.string T,.int .i64 10,.int .i64 64] w fun e w'=>e = .returned (unt (rd 10 0 L))∧w'=Lib.bytesWorld w 5 T:=by
  have hsz:T.size=L.length:=by rw [← hT];simp
  have hemp:=empT T (by omega)
  have hcv:=Lib.run_convert_string_bytes (P:=Tryz.prog) w 9 86 5 T (u:=.string) Tryz.underlying9 Tryz.underlying86 Tryz.underlying5
  have hB:∀ j c,L[j]? = some c→(Lib.bytesWorld w 5 T).cell? ⟨w.heap.size,j,none⟩=some (.int .u8 (c.toNat:Int)):=fun j c hj=>by
    have hlt:j < L.length:=(List.getElem?_eq_some_iff.1 hj).1
    rw [Lib.bytesWorld_cell w 5 T j (by omega),hT,List.getD,hj];rfl
  obtain ⟨W1,hW1⟩:∃ W1,W1=Lib.bytesWorld w 5 T:=⟨_,rfl⟩
  rw [← hW1] at hcv hB ⊢
  clear hW1 hT
  have hmv:IntKind.u64.wrap (IntKind.u64.wrap 18446744073709551616 - 1)=18446744073709551615:=by
    rw [IntKind.wrap_u64,IntKind.wrap_u64]
    decide
  go_enter Tryz.func196,Tryz.ntmps196
  go_wp2
  clear hcv hmv hemp
  go_loop [12,13,101] (fun vu vn vi=>∃ (k acc:Nat) (a:Int),vu = .bool false∧vn = .int .u64 a∧vi = .int .i64 k∧k≤L.length∧Hid (a=(acc:Int)∧acc < 18446744073709551616∧rd 10 0 L=rd 10 acc (L.drop k)))
    (fun _ _ vi=>L.length - (intOf vi).toNat)
  case atStart=>exact ⟨0,0,0,rfl,rfl,rfl,by omega,(⟨rfl,by omega,rfl⟩:(0:Int)=((0:Nat):Int)∧0 < 18446744073709551616∧rd 10 0 L=rd 10 0 (L.drop 0))⟩
  case round =>
    obtain ⟨k,acc,a,rfl,rfl,rfl,hk,hh⟩:=hrel
    obtain ⟨ha,hacc,hdec⟩:=(show a=(acc:Int)∧acc < 18446744073709551616∧rd 10 0 L=rd 10 acc (L.drop k) from hh)
    clear hh
    have g0 : 0≤a:=by omega
    have g00:a≤18446744073709551615:=by omega
    by_cases hkn:k < L.length
    · have hdrop:L.drop k=L[k] :: L.drop (k+1):=List.drop_eq_getElem_cons hkn
      have hc:=hB k L[k] (List.getElem?_eq_getElem hkn)
      have hdl:=hd L[k] (List.getElem_mem hkn)
      rw [hdrop] at hdec
      generalize L[k]=c at hc hdl hdec
      have hc256:(c.toNat:Int) < 256:=by have:=c.toNat_lt;omega
      clear hB hd hdrop
      obtain ⟨q,p,f1,f2,f3,f4,f5,f6⟩:=acc_facts 10 acc (dv c) (by omega) hdl
      rw [← ha] at f2
      have hkind:(48≤(c.toNat:Int)∧(c.toNat:Int)≤57∧(dv c:Int)=(c.toNat:Int) - 48)∨(97≤(c.toNat:Int)∧(c.toNat:Int)≤122∧(dv c:Int)=(c.toNat:Int) - 97+10∧bits .or .u8 (c.toNat:Int) 32=(c.toNat:Int)):=by
        unfold dv at hdl ⊢
        split at hdl
        · rename_i hh;rw [if_pos hh];left;omega
        · rename_i hh
          rw [if_neg hh]
          split at hdl
          · rename_i hh2;rw [if_pos hh2];right;exact ⟨by omega,by omega,by omega,low_at _ hh2.1 hh2.2⟩
          · omega
      have g3:(dv c:Int) < 10:=by omega
      have g4:(0:Int)≤(dv c:Int):=by omega
      have fq:q=1844674407370955161:=by rw [← f1];decide
      have f2:a*10=p:=by simpa using f2
      by_cases hover:acc*10+dv c < 18446744073709551616
      · have hF:rd 10 acc (c :: L.drop (k+1))=rd 10 (acc*10+dv c) (L.drop (k+1)):=by simp [rd,hover]
        have HN:Hid (p+(dv c:Int)=((acc*10+dv c:Nat):Int)∧acc*10+dv c < 18446744073709551616∧rd 10 0 L=rd 10 (acc*10+dv c) (L.drop (k+1))) :=
          (⟨by omega,hover,hdec.trans hF⟩:p+(dv c:Int)=((acc*10+dv c:Nat):Int)∧acc*10+dv c < 18446744073709551616∧rd 10 0 L=rd 10 (acc*10+dv c) (L.drop (k+1)))
        have g1:¬ q < a:=by rw [ha];intro h;have:=f5 h;omega
        have g2:p+(dv c:Int)≤18446744073709551615:=by omega
        have g5:¬ 1844674407370955162≤a:=by omega
        clear f3 f5 f6 hF hdec hacc hover ha hdl f1 fq
        rcases hkind with ⟨i1,i2,i3⟩ | ⟨i1,i2,i3,i4⟩
        · rw [i3] at g2 g3 g4 HN
          clear i3
          generalize (c.toNat:Int)=n at *
          go_wp2
          all_goals exact ⟨⟨k+1,acc*10+dv c,p+(n - 48),rfl,(by first | rfl | (congr 1;omega)),(by first | rfl | (congr 1;omega)),by omega,HN⟩,by simp [intOf];omega⟩
        · rw [i3] at g2 g3 g4 HN
          clear i3
          generalize (c.toNat:Int)=n at *
          go_wp2
          all_goals exact ⟨⟨k+1,acc*10+dv c,p+(n - 97+10),rfl,(by first | rfl | (congr 1;omega)),(by first | rfl | (congr 1;omega)),by omega,HN⟩,by simp [intOf];omega⟩
      · have hF:rd 10 acc (c :: L.drop (k+1))=none:=by simp [rd,hover]
        have HE:Hid (rd 10 0 L=none):=(hdec.trans hF:rd 10 0 L=none)
        by_cases hqa:q < a
        · have g5 : 1844674407370955162≤a:=by omega
          clear f3 f5 f6 hF hdec hacc hover ha hdl f1 fq
          rcases hkind with ⟨i1,i2,i3⟩ | ⟨i1,i2,i3,i4⟩
          all_goals
            rw [i3] at g3 g4
            clear i3
            generalize (c.toNat:Int)=n at *
            go_wp2
            all_goals
              go_ret2
              refine ⟨?_,rfl⟩
              rw [show rd 10 0 L=none from HE]
              rfl
        · have g1:p≤18446744073709551615:=f6 (by omega)
          have g2 : 18446744073709551616≤p+(dv c:Int):=by omega
          have g6:¬ 1844674407370955162≤a:=by omega
          have g5:IntKind.u64.wrap (p+(dv c:Int))=p+(dv c:Int) - 18446744073709551616:=by rw [IntKind.wrap_u64];omega
          clear f3 f5 f6 hF hdec hacc hover ha hdl hqa f1 fq
          rcases hkind with ⟨i1,i2,i3⟩ | ⟨i1,i2,i3,i4⟩
          all_goals
            rw [i3] at g2 g3 g4 g5
            clear i3
            generalize (c.toNat:Int)=n at *
            go_wp2
            all_goals
              go_ret2
              refine ⟨?_,rfl⟩
              rw [show rd 10 0 L=none from HE]
              rfl
    · have hkk:k=L.length:=by omega
      subst hkk
      have hF:rd 10 acc (L.drop L.length)=some acc:=by rw [List.drop_eq_nil_of_le (by omega)];rfl
      have HE:Hid (rd 10 0 L=some acc):=(hdec.trans hF:rd 10 0 L=some acc)
      subst ha
      clear hacc hF hdec hB hd
      go_wp2
      go_ret2
      refine ⟨?_,rfl⟩
      rw [show rd 10 0 L=some acc from HE]
      rfl
theorem uint_any (b : Nat) (hb : b = 10) (hb2 : b ≤ 36) (T : ByteArray) (L : List UInt8) (hT : T.data.toList = L) (hlen : L.length ≤ 1200) (hd : ∀ c ∈ L, dv c < b) (hne : 0 < L.length) (w : World) :
    Calls Tryz.prog 196 #[.string T,.int .i64 (b:Int),.int .i64 64] w fun e w'=>e = .returned (unt (rd b 0 L))∧w'=Lib.bytesWorld w 5 T:=by
  subst hb;exact uint_10 T L hT hlen hd hne w
theorem neq11 (W:World):(binOp .neq 92 (.iface 238 (.int .i64 1)) (.iface 238 (.int .i64 1))).run Tryz.prog W = .ok (.bool false) W :=
  Lib.run_neq_iface_int W 1 1 Tryz.underlying92 (by kernel_rfl) Tryz.underlying238
inductive Told27 (p:Int × Int):Ending→Prop
  | ok {z:Int} (h:p=(0,z)):Told27 p (.returned (.tuple #[.int .i64 z,.nilIface]))
  | err (h:p=(3,0)) (s:Int):Told27 p (.returned (.tuple #[.int .i64 s,.iface 238 (.int .i64 1)]))
theorem int_other (b : Nat) (hb : b = 10) (hb2 : b ≤ 36) (T R : ByteArray) (L LR : List UInt8) (hT : T.data.toList = L) (hlen : L.length ≤ 1200) (hR : R.data.toList = LR) (hTR : R = T) (c : UInt8) (r : List UInt8) (hL : LR = c :: r) (h1 : c.toNat ≠ 45) (h2 : c.toNat ≠ 43) (hall : ∀ c ∈ LR, dv c < b) (hne : 0 < LR.length) (w : World) :
    Calls Tryz.prog 198 #[.string T,.int .i64 b,.int .i64 64] w fun e w'=>Told27 (ansT b false LR) e∧Below w.heap.size w w':=by
  have hsz:T.size=L.length:=by rw [← hT];simp
  have hlr:LR.length≤1200:=by have:LR=L:=hR.symm.trans (by rw [hTR];exact hT);rw [this];exact hlen
  have hU:=uint_any b hb hb2 R LR hR hlr hall hne w
  clear hb
  have hbel:=Lib.bytesWorld_below w 5 R
  generalize Lib.bytesWorld w 5 R=W1 at hU hbel
  have hq1:=neq11
  subst hTR
  have hx0:∀ w,(Instr.index 9 (.string R) (.int .i64 0)).run Tryz.prog w = .ok (.int .u8 (c.toNat:Int)) w:=ix R LR hR 0 c (by rw [hL];rfl)
  have hsr:R.size=LR.length:=by rw [← hR];simp
  have hemp:=empT R (by omega)
  have j1:((c.toNat:Int) == 45)=false:=by simp;omega
  have j2:((c.toNat:Int) == 43)=false:=by simp;omega
  clear hT hL hlen hsz hR h1 h2 hsr
  generalize (c.toNat:Int)=n0 at *
  cases hrd:rd b 0 LR with
  | none =>
    have HE:Hid (ansT b false LR=(3,0)):=ans_none b false LR hall hne hrd
    rw [hrd] at hU
    have hU':Calls Tryz.prog 196 #[.string R,.int .i64 b,.int .i64 64] w fun e w'=>e = .returned (.tuple #[.int .u64 18446744073709551615,.iface 238 (.int .i64 1)])∧w'=W1:=hU
    clear hU hrd hall
    go_enter Tryz.func198,Tryz.ntmps198
    go_wp2_with (go_at_call 196;refine hU'.mono ?_;rintro e w1 ⟨rfl,rfl⟩)
    go_ret2
    exact ⟨Told27.err HE _,hbel⟩
  | some v =>
    have hvlt:=rd_lt b LR 0 v (by omega) hrd
    have HE:=ans_some b false LR hall hne v hrd
    rw [hrd] at hU
    have hU':Calls Tryz.prog 196 #[.string R,.int .i64 b,.int .i64 64] w fun e w'=>e = .returned (.tuple #[.int .u64 (v:Int),.nilIface])∧w'=W1:=hU
    clear hU hrd hall
    rcases Nat.lt_trichotomy v 9223372036854775808 with hv | hv | hv
    · have HE2 : Hid (ansT b false LR = (0, (v : Int))) := by
        show ansT b false LR=(0,(v:Int))
        rw [HE,if_neg (by omega)]
        rfl
      have i0:(0:Int)≤(v:Int):=by omega
      have i1:(v:Int) < 9223372036854775808:=by omega
      clear HE hv hvlt
      generalize (v:Int)=z at *
      go_enter Tryz.func198,Tryz.ntmps198
      go_wp2_with (go_at_call 196;refine hU'.mono ?_;rintro e w1 ⟨rfl,rfl⟩)
      go_ret2
      exact ⟨Told27.ok HE2,hbel⟩
    · subst hv
      have hU2:Calls Tryz.prog 196 #[.string R,.int .i64 b,.int .i64 64] w fun e w'=>e = .returned (.tuple #[.int .u64 9223372036854775808,.nilIface])∧w'=W1:=hU'
      have HE2:Hid (ansT b false LR=(3,0)):=by
        show ansT b false LR=(3,0)
        rw [HE]
        rfl
      clear HE hvlt hU'
      go_enter Tryz.func198,Tryz.ntmps198
      go_wp2_with (go_at_call 196;refine hU2.mono ?_;rintro e w1 ⟨rfl,rfl⟩)
      go_ret2
      exact ⟨Told27.err HE2 _,hbel⟩
    · have HE2 : Hid (ansT b false LR = (3, 0)) := by
        show ansT b false LR=(3,0)
        rw [HE,if_pos (Or.inl hv)]
      have i0:(9223372036854775808:Int) < (v:Int):=by omega
      have i1:(v:Int) < 18446744073709551616:=by omega
      clear HE hv hvlt
      generalize (v:Int)=z at *
      go_enter Tryz.func198,Tryz.ntmps198
      go_wp2_with (go_at_call 196;refine hU'.mono ?_;rintro e w1 ⟨rfl,rfl⟩)
      go_ret2
      exact ⟨Told27.err HE2 _,hbel⟩
structure Sc (w0:World) (A B:Nat) (T:ByteArray) (k:Int) (w:World):Prop where
  gr:Grown w0 w
  hA:w0.heap.size≤A
  hB:w0.heap.size≤B
  hAB:A ≠ B
  a0:w.cell? ⟨A,0,none⟩=some (.int .i64 0)
  a1:w.cell? ⟨A,1,none⟩=some (.int .i64 0)
  b0:w.cell? ⟨B,0,none⟩=some (.string T)
  b1:w.cell? ⟨B,1,none⟩=some (.int .i64 k)
  fA0:w.frozen? ⟨A,0,none⟩=false
  fA1:w.frozen? ⟨A,1,none⟩=false
  fB1:w.frozen? ⟨B,1,none⟩=false
theorem Sc.drewN {w0:World} {A B:Nat} {T:ByteArray} {k:Int} {w:World} (h:Sc w0 A B T k w) (n:Nat):Sc w0 A B T k (w.drewN n) :=
  ⟨h.gr,h.hA,h.hB,h.hAB,h.a0,h.a1,h.b0,h.b1,h.fA0,h.fA1,h.fB1⟩
theorem Sc.set {w0:World} {A B:Nat} {T:ByteArray} {k:Int} {w:World} (h:Sc w0 A B T k w) (k':Int):Sc w0 A B T k' (w.setCell ⟨B,1,none⟩ (.int .i64 k')):=by
  have hne:=h.hAB
  refine ⟨Grown.setCell h.gr h.hB _,h.hA,h.hB,h.hAB,?_,?_,?_,World.cell?_setCell_same _ _ _ h.b1,?_,?_,?_⟩
  · rw [World.cell?_setCell_other _ _ _ _ (by simp <;> omega)];exact h.a0
  · rw [World.cell?_setCell_other _ _ _ _ (by simp <;> omega)];exact h.a1
  · rw [World.cell?_setCell_other _ _ _ _ (by simp)];exact h.b0
  · rw [World.frozen?_setCell];exact h.fA0
  · rw [World.frozen?_setCell];exact h.fA1
  · rw [World.frozen?_setCell];exact h.fB1
theorem ended_run (B : Nat) (T : ByteArray) (k : Int) (z : Bool) (hz : (k == (T.size : Int)) = z) (w : World) (b0 : w.cell? ⟨B, 0, none⟩ = some (.string T)) (b1 : w.cell? ⟨B, 1, none⟩ = some (.int .i64 k)) :
    Calls Tryz.prog 171 #[.pointer (some ⟨B,0,none⟩)] w fun e w'=>e = .returned (.bool z)∧∃ m,w'=w.drewN m:=by
  go_enter Tryz.func171,Tryz.ntmps171
  go_wp2
  go_quiet (fail)
  go_wp2
  go_ret
  exact ⟨rfl,nq,rfl⟩
theorem ended_in (B : Nat) (T : ByteArray) (k : Int) (z : Bool) (hz : (k == (T.size : Int)) = z) (w : World) (b0 : w.cell? ⟨B, 0, none⟩ = some (.string T)) (b1 : w.cell? ⟨B, 1, none⟩ = some (.int .i64 k)) (n : Nat) :
    Calls Tryz.prog 171 #[.pointer (some ⟨B,0,none⟩)] (w.drewN n) fun e w'=>e = .returned (.bool z)∧∃ m,w'=w.drewN m :=
  Calls.quiet_of (ended_run B T k z hz (w.drewN n) b0 b1)
theorem take_end {w0 : World} {A B : Nat} {T : ByteArray} {k : Int} (c : Int) (hk : k = (T.size : Int)) (w : World) (h : Sc w0 A B T k w) :
    Calls Tryz.prog 173 #[.pointer (some ⟨B,0,none⟩),.int .u8 c] w fun e w'=>e = .returned (.bool false)∧Sc w0 A B T k w':=by
  have H21:=ended_in B T k true (by simpa using hk) w h.b0 h.b1
  have HS:Hid (Sc w0 A B T k w):=h
  have b0:=h.b0
  have b1:=h.b1
  clear h hk
  go_enter Tryz.func173,Tryz.ntmps173
  go_wp2_with fail
  go_quiet ((go_at_call 171;exact H21 _))
  go_wp2_with fail
  go_ret
  exact ⟨rfl,(show Sc w0 A B T k w from HS).drewN _⟩
theorem take_no {w0 : World} {A B : Nat} {T : ByteArray} {k : Nat} (c : Int) (x : UInt8) (hx : T.data.toList[k]? = some x) (hc : ((x.toNat : Int) == c) = false) (w : World) (h : Sc w0 A B T k w) :
    Calls Tryz.prog 173 #[.pointer (some ⟨B,0,none⟩),.int .u8 c] w fun e w'=>e = .returned (.bool false)∧Sc w0 A B T k w':=by
  have hlt:k < T.size:=by have:=(List.getElem?_eq_some_iff.1 hx).1;simpa using this
  have H21:=ended_in B T k false (by simp;omega) w h.b0 h.b1
  have HS:Hid (Sc w0 A B T k w):=h
  have b0:=h.b0
  have b1:=h.b1
  have hix:=ix T _ rfl k x hx
  clear h hlt hx
  generalize (x.toNat:Int)=xi at *
  go_enter Tryz.func173,Tryz.ntmps173
  go_wp2_with fail
  go_quiet ((go_at_call 171;exact H21 _))
  go_wp2_with fail
  go_ret
  exact ⟨rfl,(show Sc w0 A B T k w from HS).drewN _⟩
theorem take_yes {w0 : World} {A B : Nat} {T : ByteArray} {k : Nat} (x : UInt8) (hlen : T.size ≤ 1200) (hx : T.data.toList[k]? = some x) (w : World) (h : Sc w0 A B T k w) :
    Calls Tryz.prog 173 #[.pointer (some ⟨B,0,none⟩),.int .u8 (x.toNat:Int)] w fun e w'=>e = .returned (.bool true)∧Sc w0 A B T ((k:Int)+1) w':=by
  have hlt:k < T.size:=by have:=(List.getElem?_eq_some_iff.1 hx).1;simpa using this
  have H21:=ended_in B T k false (by simp;omega) w h.b0 h.b1
  have HS:Hid (Sc w0 A B T k w):=h
  have b0:=h.b0
  have b1:=h.b1
  have f1:=h.fB1
  have hix:=ix T _ rfl k x hx
  have hk2:(k:Int) < 1200:=by omega
  clear h hlt hx
  generalize (x.toNat:Int)=xi at *
  go_enter Tryz.func173,Tryz.ntmps173
  go_wp2_with fail
  go_quiet ((go_at_call 171;exact H21 _))
  go_wp2_with fail
  go_ret
  exact ⟨rfl,((show Sc w0 A B T k w from HS).drewN _).set _⟩
theorem sign_run {w0 : World} {A B : Nat} {T : ByteArray} (hlen : T.size ≤ 1200) (j : Nat)
    (hj:(T.size=0∧j=0)∨(T.data.toList[0]? = some 45∧j=1)∨(T.data.toList[0]? = some 43∧j=1)∨(∃ x,T.data.toList[0]? = some x∧x.toNat ≠ 45∧x.toNat ≠ 43∧j=0)) (w:World) (h:Sc w0 A B T ((0:Nat):Int) w) :
    Calls Tryz.prog 187 #[.pointer (some ⟨B,0,none⟩)] w fun e w'=>(∃ z,e = .returned (.bool z))∧Sc w0 A B T (j:Int) w':=by
  rcases hj with ⟨h0,rfl⟩ | ⟨h0,rfl⟩ | ⟨h0,rfl⟩ | ⟨x,h0,h1,h2,rfl⟩
  · have HT:=fun c w h=>take_end (w0:=w0) (A:=A) (B:=B) (T:=T) (k:=((0:Nat):Int)) c (by omega) w h
    go_enter Tryz.func187,Tryz.ntmps187
    go_wp2_with fail
    refine (HT _ _ h).mono ?_
    rintro e w1 ⟨rfl,g1⟩
    go_wp2_with fail
    refine (HT _ _ g1).mono ?_
    rintro e w2 ⟨rfl,g2⟩
    go_wp2_with fail
    go_ret
    exact ⟨⟨_,rfl⟩,g2⟩
  · have HT:∀ w,Sc w0 A B T ((0:Nat):Int) w→Calls Tryz.prog 173 #[.pointer (some ⟨B,0,none⟩),.int .u8 45] w fun e w'=>e = .returned (.bool true)∧Sc w0 A B T (((0:Nat):Int)+1) w':=fun w h=>take_yes (k:=0) 45 hlen h0 w h
    go_enter Tryz.func187,Tryz.ntmps187
    go_wp2_with fail
    refine (HT _ h).mono ?_
    rintro e w1 ⟨rfl,g1⟩
    clear h HT
    go_wp2_with fail
    go_ret
    exact ⟨⟨_,rfl⟩,g1⟩
  · have HN:=fun w h=>take_no (w0:=w0) (A:=A) (B:=B) (T:=T) (k:=0) 45 43 h0 (by decide) w h
    have HT:∀ w,Sc w0 A B T ((0:Nat):Int) w→Calls Tryz.prog 173 #[.pointer (some ⟨B,0,none⟩),.int .u8 43] w fun e w'=>e = .returned (.bool true)∧Sc w0 A B T (((0:Nat):Int)+1) w':=fun w h=>take_yes (k:=0) 43 hlen h0 w h
    go_enter Tryz.func187,Tryz.ntmps187
    go_wp2_with fail
    refine (HN _ h).mono ?_
    rintro e w1 ⟨rfl,g1⟩
    clear h HN
    go_wp2_with fail
    refine (HT _ g1).mono ?_
    rintro e w2 ⟨rfl,g2⟩
    clear g1 HT
    go_wp2_with fail
    go_ret
    exact ⟨⟨_,rfl⟩,g2⟩
  · have HN:=fun w h=>take_no (w0:=w0) (A:=A) (B:=B) (T:=T) (k:=0) 45 x h0 (by simp;omega) w h
    have HM:=fun w h=>take_no (w0:=w0) (A:=A) (B:=B) (T:=T) (k:=0) 43 x h0 (by simp;omega) w h
    go_enter Tryz.func187,Tryz.ntmps187
    go_wp2_with fail
    refine (HN _ h).mono ?_
    rintro e w1 ⟨rfl,g1⟩
    clear h HN
    go_wp2_with fail
    refine (HM _ g1).mono ?_
    rintro e w2 ⟨rfl,g2⟩
    clear g1 HM
    go_wp2_with fail
    go_ret
    exact ⟨⟨_,rfl⟩,g2⟩
def atOf (B:Nat) (w:World):Nat:=match w.cell? ⟨B,1,none⟩ with
  | some (.int _ k)=>k.toNat
  | _=>0
theorem atOf_sc {w0:World} {A B:Nat} {T:ByteArray} {k:Int} {w:World} (h:Sc w0 A B T k w):atOf B w=k.toNat:=by
  unfold atOf;rw [h.b1]
theorem digits_run {w0 : World} {A B : Nat} {T : ByteArray} (b : Nat) (hb2 : b ≤ 36) (hlen : T.size ≤ 1200) (k0 k1 : Nat) (h01 : k0 ≤ k1) (h1 : k1 ≤ T.size)
    (hgood:∀ j,k0≤j→j < k1→∃ x,T.data.toList[j]? = some x∧dw x < b)
    (hstop:k1=T.size∨∃ x,T.data.toList[k1]? = some x∧¬ dw x < b) (w:World) (h:Sc w0 A B T (k0:Int) w) :
    Calls Tryz.prog 185 #[.pointer (some ⟨B,0,none⟩),.int .i64 (b:Int)] w fun e w'=>e = .returned (.string (T.extract k0 k1))∧Sc w0 A B T (k1:Int) w':=by
  have HS:Hid (Sc w0 A B T k0 w):=h
  have b1:=h.b1
  clear h
  have HG:Hid (∀ j,k0≤j→j < k1→∃ x,T.data.toList[j]? = some x∧dw x < b):=hgood
  have HP:Hid (k1=T.size∨∃ x,T.data.toList[k1]? = some x∧¬ dw x < b):=hstop
  clear hgood hstop
  go_enter Tryz.func185,Tryz.ntmps185
  go_wp2_with fail
  clear b1
  go_loopw [] (fun wr=>∃ k:Nat,Hid (Sc w0 A B T (k:Int) wr)∧k0≤k∧k≤k1) (fun wr=>T.size - atOf B wr)
  case atStart=>exact ⟨k0,HS,by omega,h01⟩
  case round =>
    clear HS
    obtain ⟨k,HS,hk0,hk1⟩:=hrel
    have hS:=(show Sc w0 A B T (k:Int) wr from HS)
    have b0:=hS.b0
    have b1:=hS.b1
    have f1:=hS.fB1
    have hat:=atOf_sc hS
    by_cases hlt:k < k1
    · obtain ⟨x,hx,hd⟩:=(show ∀ j,k0≤j→j < k1→∃ x,T.data.toList[j]? = some x∧dw x < b from HG) k hk0 hlt
      have hix:=ix T _ rfl k x hx
      have H21:=ended_in B T k false (by simp;omega) wr b0 b1
      have H26:=impl_dig x
      have hd2:(dw x:Int) < (b:Int):=by omega
      have hk2:(k:Int) < 1200:=by omega
      have HN:∀ n,Sc w0 A B T ((k+1:Nat):Int) ((wr.drewN n).setCell ⟨B,1,none⟩ (.int .i64 ((k:Int)+1))):=fun n=>(hS.drewN n).set _
      have HN':Hid (∀ n,Sc w0 A B T ((k+1:Nat):Int) ((wr.drewN n).setCell ⟨B,1,none⟩ (.int .i64 ((k:Int)+1)))):=HN
      clear hS HS HG HP hx hd HN
      generalize (dw x:Int)=dd at *
      generalize (x.toNat:Int)=xi at *
      go_wp2_with fail
      go_quiet ((first | (go_at_call 171;exact H21 _) | (go_at_call 193;exact Calls.quiet_of_same (H26 _))))
      go_wp2_with fail
      have hN:=(show ∀ n,Sc w0 A B T ((k+1:Nat):Int) ((wr.drewN n).setCell ⟨B,1,none⟩ (.int .i64 ((k:Int)+1))) from HN') nq
      refine ⟨⟨k+1,hN,by omega,by omega⟩,?_⟩
      rw [atOf_sc hN,hat]
      omega
    · obtain rfl:k=k1:=by omega
      have hsl:∀ W:World,(Instr.slice 9 (.string T) (some (.int .i64 (k0:Int))) (some (.int .i64 (k:Int))) none).run Tryz.prog W = .ok (.string (T.extract k0 k)) W:=by
        intro W
        rw [run_slice_string (P:=Tryz.prog) W 9 T .i64 .i64 (k0:Int) (k:Int) Tryz.underlying9 (by omega) (by omega) (by omega)]
        simp
      have HN':Hid (∀ n,Sc w0 A B T (k:Int) (wr.drewN n)):=(fun n=>hS.drewN n:∀ n,Sc w0 A B T (k:Int) (wr.drewN n))
      rcases (show k=T.size∨∃ x,T.data.toList[k]? = some x∧¬ dw x < b from HP) with hst | ⟨x,hx,hd⟩
      · have H21:=ended_in B T k true (by simp;omega) wr b0 b1
        clear hS HS HG HP hst
        go_wp2_with fail
        go_quiet ((first | (go_at_call 171;exact H21 _)))
        go_wp2_with fail
        have hS2:=(show ∀ n,Sc w0 A B T (k:Int) (wr.drewN n) from HN') nq
        clear HN' b0 b1 f1 hat
        generalize wr.drewN nq=W at *
        have b0:=hS2.b0
        have b1:=hS2.b1
        have HS3:Hid (Sc w0 A B T (k:Int) W):=hS2
        clear hS2
        go_quiet (fail)
        go_wp2_with fail
        go_ret
        exact ⟨rfl,(show Sc w0 A B T (k:Int) W from HS3).drewN _⟩
      · have hlt2:k < T.size:=by have:=(List.getElem?_eq_some_iff.1 hx).1;simpa using this
        have hix:=ix T _ rfl k x hx
        have H21:=ended_in B T k false (by simp;omega) wr b0 b1
        have H26:=impl_dig x
        have hd2:¬ (dw x:Int) < (b:Int):=by omega
        clear hS HS HG HP hx hd
        generalize (dw x:Int)=dd at *
        generalize (x.toNat:Int)=xi at *
        go_wp2_with fail
        go_quiet ((first | (go_at_call 171;exact H21 _) | (go_at_call 193;exact Calls.quiet_of_same (H26 _))))
        go_wp2_with fail
        have hS2:=(show ∀ n,Sc w0 A B T (k:Int) (wr.drewN n) from HN') nq
        clear HN' b0 b1 f1 hat
        generalize wr.drewN nq=W at *
        have b0:=hS2.b0
        have b1:=hS2.b1
        have HS3:Hid (Sc w0 A B T (k:Int) W):=hS2
        clear hS2
        go_quiet (fail)
        go_wp2_with fail
        go_ret
        exact ⟨rfl,(show Sc w0 A B T (k:Int) W from HS3).drewN _⟩
theorem Kept.trans {a b c:World} (h:Kept a b) (g:Kept b c):Kept a c:=World.keptBut_trans h g
theorem Kept.set {W w':World} (h:Kept W w') {a:Addr} (ha:W.heap.size≤a.block) (v:Value):Kept W (w'.setCell a v):=by
  obtain ⟨h1,h2,h3⟩:=h
  refine ⟨h1,h2,fun i hi=>?_⟩
  have e:(w'.setCell a v).heap[i]? = w'.heap[i]?:=by
    simp only [World.setCell,Array.getElem?_modify]
    rw [if_neg (by omega)]
  rw [e]
  exact h3 i hi
inductive Told22 (p:Int × Int):Ending→Prop
  | ok {z:Int} (h:p=(0,z)):Told22 p (.returned (.tuple #[.int .i64 z,.nilIface]))
  | err (h:p=(3,0)) (s:Int) (t:TypeId) (v:Value):Told22 p (.returned (.tuple #[.int .i64 s,.iface t v]))
theorem sc_start (T:ByteArray) (w:World):Sc w w.heap.size (w.heap.size+1) T ((0:Nat):Int) ((w.alloc (.cells #[.int .i64 0,.int .i64 0] 229)).alloc (.cells #[.string T,.int .i64 0] 216)):=by
  refine ⟨Grown.alloc (Grown.alloc (Grown.refl w) _ _) _ _,by omega,by omega,by omega,by simp,by simp,by simp,by simp,?_,?_,?_⟩
  all_goals simp
theorem impl_read_empty (b : Nat) (hb : 2 ≤ b) (hb2 : b ≤ 36) (T : ByteArray) (hlen : T.size ≤ 1200) (j k1 : Nat) (X : ByteArray)
    (H19:∀ {w0:World} {A B:Nat} (w:World),Sc w0 A B T ((0:Nat):Int) w→Calls Tryz.prog 187 #[.pointer (some ⟨B,0,none⟩)] w fun e w'=>(∃ z,e = .returned (.bool z))∧Sc w0 A B T (j:Int) w')
    (H20:∀ {w0:World} {A B:Nat} (w:World),Sc w0 A B T (j:Int) w→Calls Tryz.prog 185 #[.pointer (some ⟨B,0,none⟩),.int .i64 (b:Int)] w fun e w'=>e = .returned (.string X)∧Sc w0 A B T (k1:Int) w') (hX:X=⟨#[]⟩) (w:World) :
    Calls Tryz.prog 188 #[.string T,.int .i64 (b:Int)] w fun e w'=>e = .returned (whole (2,0))∧Kept w w':=by
  subst hX
  have HB:=is_base (b:Int) true (by simp;omega)
  have hs:=sc_start T w
  have h19:=H19 (w0:=w) (A:=w.heap.size) (B:=w.heap.size+1)
  have h20:=H20 (w0:=w) (A:=w.heap.size) (B:=w.heap.size+1)
  clear H19 H20
  go_enter Tryz.func188,Tryz.ntmps188
  go_wp2_with fail
  refine (HB _).mono ?_
  rintro e w' ⟨rfl,hw⟩
  subst hw
  clear HB
  go_wp2_with fail
  refine (h19 _ hs).mono ?_
  rintro e w1 ⟨⟨z,rfl⟩,s1⟩
  clear h19 hs
  go_wp2_with fail
  refine (h20 _ s1).mono ?_
  rintro e w2 ⟨rfl,s2⟩
  clear h20 s1
  have a0:=s2.a0
  have a1:=s2.a1
  have f0:=s2.fA0
  have f1:=s2.fA1
  have hk:Kept w w2:=s2.gr.1
  clear s2
  have e0:∀ v:Value,(w2.setCell ⟨w.heap.size,0,none⟩ v).cell? ⟨w.heap.size,0,none⟩=some v:=fun v=>World.cell?_setCell_same _ _ _ a0
  have e1:∀ v u:Value,((w2.setCell ⟨w.heap.size,0,none⟩ v).setCell ⟨w.heap.size,1,none⟩ u).cell? ⟨w.heap.size,1,none⟩=some u:=fun v u=>World.cell?_setCell_same _ _ _ (by rw [World.cell?_setCell_other _ _ _ _ (by simp)];exact a1)
  go_wp2_with fail
  refine bodyPost_ret (by simp [results,Tryz.results188,go_sem,e0,e1];try rfl) rfl ?_
  refine ⟨rfl,Kept.set (Kept.set hk (Nat.le_refl _) _) (Nat.le_refl _) _⟩
theorem impl_read_bad (b : Nat) (hb : 2 ≤ b) (hb2 : b ≤ 36) (T : ByteArray) (hlen : T.size ≤ 1200) (j k1 : Nat) (X : ByteArray)
    (H19:∀ {w0:World} {A B:Nat} (w:World),Sc w0 A B T ((0:Nat):Int) w→Calls Tryz.prog 187 #[.pointer (some ⟨B,0,none⟩)] w fun e w'=>(∃ z,e = .returned (.bool z))∧Sc w0 A B T (j:Int) w')
    (H20:∀ {w0:World} {A B:Nat} (w:World),Sc w0 A B T (j:Int) w→Calls Tryz.prog 185 #[.pointer (some ⟨B,0,none⟩),.int .i64 (b:Int)] w fun e w'=>e = .returned (.string X)∧Sc w0 A B T (k1:Int) w') (hX:X.toList.isEmpty=false) (hk1:k1 ≠ T.size) (w:World) :
    Calls Tryz.prog 188 #[.string T,.int .i64 (b:Int)] w fun e w'=>e = .returned (whole (2,0))∧Kept w w':=by
  have HB:=is_base (b:Int) true (by simp;omega)
  have hs:=sc_start T w
  have h19:=H19 (w0:=w) (A:=w.heap.size) (B:=w.heap.size+1)
  have h20:=H20 (w0:=w) (A:=w.heap.size) (B:=w.heap.size+1)
  clear H19 H20
  go_enter Tryz.func188,Tryz.ntmps188
  go_wp2_with fail
  refine (HB _).mono ?_
  rintro e w' ⟨rfl,hw⟩
  subst hw
  clear HB
  go_wp2_with fail
  refine (h19 _ hs).mono ?_
  rintro e w1 ⟨⟨z,rfl⟩,s1⟩
  clear h19 hs
  go_wp2_with fail
  refine (h20 _ s1).mono ?_
  rintro e w2 ⟨rfl,s2⟩
  clear h20 s1
  have a0:=s2.a0
  have a1:=s2.a1
  have f0:=s2.fA0
  have f1:=s2.fA1
  have hk:Kept w w2:=s2.gr.1
  have h21:=ended_run (w.heap.size+1) T (k1:Int) false (by simp;omega) w2 s2.b0 s2.b1
  clear s2
  go_wp2_with fail
  refine h21.mono ?_
  rintro e w3 ⟨rfl,m,hw3⟩
  clear h21
  replace a0:w3.cell? ⟨w.heap.size,0,none⟩=some (.int .i64 0):=by rw [hw3];exact a0
  replace a1:w3.cell? ⟨w.heap.size,1,none⟩=some (.int .i64 0):=by rw [hw3];exact a1
  replace f0:w3.frozen? ⟨w.heap.size,0,none⟩=false:=by rw [hw3];exact f0
  replace f1:w3.frozen? ⟨w.heap.size,1,none⟩=false:=by rw [hw3];exact f1
  replace hk:Kept w w3:=by rw [hw3];exact hk
  clear hw3
  have e0:∀ v:Value,(w3.setCell ⟨w.heap.size,0,none⟩ v).cell? ⟨w.heap.size,0,none⟩=some v:=fun v=>World.cell?_setCell_same _ _ _ a0
  have e1:∀ v u:Value,((w3.setCell ⟨w.heap.size,0,none⟩ v).setCell ⟨w.heap.size,1,none⟩ u).cell? ⟨w.heap.size,1,none⟩=some u:=fun v u=>World.cell?_setCell_same _ _ _ (by rw [World.cell?_setCell_other _ _ _ _ (by simp)];exact a1)
  go_wp2_with fail
  refine bodyPost_ret (by simp [results,Tryz.results188,go_sem,e0,e1];try rfl) rfl ?_
  refine ⟨rfl,Kept.set (Kept.set hk (Nat.le_refl _) _) (Nat.le_refl _) _⟩
theorem impl_read_good (b : Nat) (hb : 2 ≤ b) (hb2 : b ≤ 36) (T : ByteArray) (hlen : T.size ≤ 1200) (j k1 : Nat) (X : ByteArray)
    (H19:∀ {w0:World} {A B:Nat} (w:World),Sc w0 A B T ((0:Nat):Int) w→Calls Tryz.prog 187 #[.pointer (some ⟨B,0,none⟩)] w fun e w'=>(∃ z,e = .returned (.bool z))∧Sc w0 A B T (j:Int) w')
    (H20:∀ {w0:World} {A B:Nat} (w:World),Sc w0 A B T (j:Int) w→Calls Tryz.prog 185 #[.pointer (some ⟨B,0,none⟩),.int .i64 (b:Int)] w fun e w'=>e = .returned (.string X)∧Sc w0 A B T (k1:Int) w') (hX:X.toList.isEmpty=false) (hk1:k1=T.size) (p:Int × Int) (ev:Value)
    (H22:∀ W:World,W.cell? ⟨9,0,none⟩=some ev→Calls Tryz.prog 194 #[.string T,.int .i64 (b:Int),.int .i64 64] W fun e w'=>Told22 p e∧Below W.heap.size W w')
    (w:World) (hv:w.cell? ⟨9,0,none⟩=some ev) :
    Calls Tryz.prog 188 #[.string T,.int .i64 (b:Int)] w fun e w'=>e = .returned (whole p)∧Kept w w':=by
  have HB:=is_base (b:Int) true (by simp;omega)
  have hs:=sc_start T w
  have h19:=H19 (w0:=w) (A:=w.heap.size) (B:=w.heap.size+1)
  have h20:=H20 (w0:=w) (A:=w.heap.size) (B:=w.heap.size+1)
  clear H19 H20
  go_enter Tryz.func188,Tryz.ntmps188
  go_wp2_with fail
  refine (HB _).mono ?_
  rintro e w' ⟨rfl,hw⟩
  subst hw
  clear HB
  go_wp2_with fail
  refine (h19 _ hs).mono ?_
  rintro e w1 ⟨⟨z,rfl⟩,s1⟩
  clear h19 hs
  go_wp2_with fail
  refine (h20 _ s1).mono ?_
  rintro e w2 ⟨rfl,s2⟩
  clear h20 s1
  have a0:=s2.a0
  have a1:=s2.a1
  have f0:=s2.fA0
  have f1:=s2.fA1
  have hk:Kept w w2:=s2.gr.1
  have h21:=ended_run (w.heap.size+1) T (k1:Int) true (by simp;omega) w2 s2.b0 s2.b1
  clear s2 hk1
  go_wp2_with fail
  refine h21.mono ?_
  rintro e w3 ⟨rfl,m,hw3⟩
  clear h21
  replace a0:w3.cell? ⟨w.heap.size,0,none⟩=some (.int .i64 0):=by rw [hw3];exact a0
  replace a1:w3.cell? ⟨w.heap.size,1,none⟩=some (.int .i64 0):=by rw [hw3];exact a1
  replace f0:w3.frozen? ⟨w.heap.size,0,none⟩=false:=by rw [hw3];exact f0
  replace f1:w3.frozen? ⟨w.heap.size,1,none⟩=false:=by rw [hw3];exact f1
  replace hk:Kept w w3:=by rw [hw3];exact hk
  clear hw3
  have h22:=H22 w3 (by rw [World.keptBut.cell hk (lt_of_cell hv) (fun f=>f)];exact hv)
  clear H22 hv
  go_wp2_with fail
  refine h22.mono ?_
  rintro e w4 ⟨ht,hbel⟩
  have hA:w.heap.size < w3.heap.size:=lt_of_cell a0
  replace a0:w4.cell? ⟨w.heap.size,0,none⟩=some (.int .i64 0):=(hbel.cell hA).trans a0
  replace a1:w4.cell? ⟨w.heap.size,1,none⟩=some (.int .i64 0):=(hbel.cell hA).trans a1
  replace f0:w4.frozen? ⟨w.heap.size,0,none⟩=false:=by rw [← f0];simp only [World.frozen?,hbel.block _ hA]
  replace f1:w4.frozen? ⟨w.heap.size,1,none⟩=false:=by rw [← f1];simp only [World.frozen?,hbel.block _ hA]
  replace hk:Kept w w4:=Kept.trans hk (hbel.frame _)
  clear hbel h22 hA
  cases ht with
  | ok h =>
    subst h
    have e0:∀ v:Value,(w4.setCell ⟨w.heap.size,0,none⟩ v).cell? ⟨w.heap.size,0,none⟩=some v:=fun v=>World.cell?_setCell_same _ _ _ a0
    have e1:∀ v u:Value,((w4.setCell ⟨w.heap.size,0,none⟩ v).setCell ⟨w.heap.size,1,none⟩ u).cell? ⟨w.heap.size,1,none⟩=some u:=fun v u=>World.cell?_setCell_same _ _ _ (by rw [World.cell?_setCell_other _ _ _ _ (by simp)];exact a1)
    go_wp2_with fail
    refine bodyPost_ret (by simp [results,Tryz.results188,go_sem,e0,e1];try rfl) rfl ?_
    refine ⟨rfl,Kept.set (Kept.set hk (Nat.le_refl _) _) (Nat.le_refl _) _⟩
  | err h s t v =>
    subst h
    have e0:∀ v:Value,(w4.setCell ⟨w.heap.size,0,none⟩ v).cell? ⟨w.heap.size,0,none⟩=some v:=fun v=>World.cell?_setCell_same _ _ _ a0
    have e1:∀ v u:Value,((w4.setCell ⟨w.heap.size,0,none⟩ v).setCell ⟨w.heap.size,1,none⟩ u).cell? ⟨w.heap.size,1,none⟩=some u:=fun v u=>World.cell?_setCell_same _ _ _ (by rw [World.cell?_setCell_other _ _ _ _ (by simp)];exact a1)
    go_wp2_with fail
    refine bodyPost_ret (by simp [results,Tryz.results188,go_sem,e0,e1];try rfl) rfl ?_
    refine ⟨rfl,Kept.set (Kept.set hk (Nat.le_refl _) _) (Nat.le_refl _) _⟩
theorem impl_read_none (b : Int) (T : ByteArray) (h : b < 2 ∨ 36 < b ∨ 1200 < (T.size : Int)) (w : World) :
    Calls Tryz.prog 188 #[.string T,.int .i64 b] w fun e w'=>e = .returned (whole (1,0))∧Kept w w':=by
  by_cases hb:b < 2∨36 < b
  · have HB:=is_base b false (by simp;omega)
    clear h hb
    go_enter Tryz.func188,Tryz.ntmps188
    go_wp2_with fail
    refine (HB _).mono ?_
    rintro e w' ⟨rfl,hw⟩
    subst hw
    clear HB
    go_wp2_with fail
    go_returns
    exact ⟨rfl,(show Grown w _ by go_grown).1⟩
  · have HB:=is_base b true (by simp;omega)
    have h3 : 1200 < (T.size:Int):=by omega
    clear h hb
    go_enter Tryz.func188,Tryz.ntmps188
    go_wp2_with fail
    refine (HB _).mono ?_
    rintro e w' ⟨rfl,hw⟩
    subst hw
    clear HB
    go_wp2_with fail
    go_returns
    exact ⟨rfl,(show Grown w _ by go_grown).1⟩
theorem range_err (fn s : ByteArray) (hC : ∀ w, Calls Tryz.prog 110 #[.string s] w fun e w' => e = .returned (.string s) ∧ Below w.heap.size w w') (te : TypeId) (pe : Value) (w : World) (hv : w.cell? ⟨9, 0, none⟩ = some (.iface te pe)) :
    Calls Tryz.prog 202 #[.string fn,.string s] w fun e w'=>(∃ a,e = .returned (.pointer (some a)))∧Below w.heap.size w w':=by
  have hG : 9 < w.heap.size:=lt_of_cell hv
  have hvd:w.drew.cell? ⟨9,0,none⟩=some (.iface te pe):=hv
  go_enter Tryz.func202,Tryz.ntmps202
  go_wp2
  go_region_with (
      go_at_call 110
      refine (hC _).mono ?_
      rintro e w2 ⟨rfl,hbel⟩
      have hv2:w2.cell? ⟨9,0,none⟩=some (.iface te pe):=(hbel.cell (show 9 < w.drew.heap.size from hG)).trans hvd)
  all_goals (
    go_wp2
    go_ret
    have hs2:w.heap.size≤w2.heap.size:=hbel.size
    exact ⟨⟨_,rfl⟩,((Below.drew (Below.refl _ w)).trans hbel).alloc hs2 _⟩)
theorem eql12 (W:World):(binOp .eql 92 (.iface 238 (.int .i64 1)) (.iface 238 (.int .i64 2))).run Tryz.prog W = .ok (.bool false) W :=
  Lib.run_eql_iface_int W 1 2 Tryz.underlying92 (by kernel_rfl) Tryz.underlying238
theorem eql11 (W:World):(binOp .eql 92 (.iface 238 (.int .i64 1)) (.iface 238 (.int .i64 1))).run Tryz.prog W = .ok (.bool true) W :=
  Lib.run_eql_iface_int W 1 1 Tryz.underlying92 (by kernel_rfl) Tryz.underlying238
theorem to_err (fn s : ByteArray) (b c : Int) (hC : ∀ w, Calls Tryz.prog 110 #[.string s] w fun e w' => e = .returned (.string s) ∧ Below w.heap.size w w') (te : TypeId) (pe : Value) (w : World) (hv : w.cell? ⟨9, 0, none⟩ = some (.iface te pe)) :
    Calls Tryz.prog 197 #[.string fn,.string s,.int .i64 b,.int .i64 c,.iface 238 (.int .i64 1)] w fun e w'=>(∃ t v,e = .returned (.iface t v))∧Below w.heap.size w w':=by
  have h35:=range_err fn s hC te pe w hv
  have hq12:=eql12
  have hq11:=eql11
  clear hC hv
  go_enter Tryz.func197,Tryz.ntmps197
  go_wp2_with fail
  refine h35.mono ?_
  rintro e w2 ⟨⟨a,rfl⟩,hb⟩
  clear h35
  go_wp2_with fail
  go_ret
  exact ⟨⟨_,_,rfl⟩,hb⟩
theorem parse22 (b : Nat) (T : ByteArray) (p : Int × Int) (H27 : ∀ w, Calls Tryz.prog 198 #[.string T, .int .i64 b, .int .i64 64] w fun e w' => Told27 p e ∧ Below w.heap.size w w')
    (hC:∀ w,Calls Tryz.prog 110 #[.string T] w fun e w'=>e = .returned (.string T)∧Below w.heap.size w w') (te:TypeId) (pe:Value) (w:World) (hv:w.cell? ⟨9,0,none⟩=some (.iface te pe)) :
    Calls Tryz.prog 194 #[.string T,.int .i64 (b:Int),.int .i64 64] w fun e w'=>Told22 p e∧Below w.heap.size w w':=by
  have h27:=H27 w
  clear H27
  go_enter Tryz.func194,Tryz.ntmps194
  go_wp2_with fail
  refine h27.mono ?_
  rintro e w2 ⟨ht,hb⟩
  clear h27
  cases ht with
  | ok h =>
    clear hC hv
    go_wp2_with fail
    go_ret2
    exact ⟨Told22.ok h,hb⟩
  | err h s =>
    have h28:=fun fn=>to_err fn T (b:Int) 64 hC te pe w2 ((hb.cell (show 9 < w.heap.size from lt_of_cell hv)).trans hv)
    clear hC hv
    go_wp2_with fail
    refine (h28 _).mono ?_
    rintro e w3 ⟨⟨t,v,rfl⟩,hb2⟩
    clear h28
    go_wp2_with fail
    go_ret2
    exact ⟨Told22.err h _ _ _,hb.trans ⟨hb2.os,hb2.tape,hb2.output,hb2.size,fun k hk=>hb2.block k (Nat.lt_of_lt_of_le hk hb.size)⟩⟩
end Go.Proofs.YtomcmnompajnlaaGreatDoor.Rd
namespace Go.Proofs.YtomcmnompajnlaaGreatDoor
open Go.ChangeShapes Go.WideShapes Go.ChangeAt Go.RowKit
set_option linter.unusedVariables false
def dgb (b:Nat) (c:UInt8):Bool:=decide (Rd.dw c < b)
theorem dgb_ten (c:UInt8):dgb 10 c=isD c:=by
  rw [Bool.eq_iff_iff]
  unfold dgb Rd.dw isD
  rw [decide_eq_true_iff,Bool.and_eq_true,decide_eq_true_iff,decide_eq_true_iff]
  constructor
  · intro h
    split at h
    · rename_i g;exact g
    · split at h <;> omega
  · rintro ⟨h1,h2⟩
    rw [if_pos ⟨h1,h2⟩]
    omega
theorem impl_digits {B : Nat} {T : ByteArray} (L : List UInt8) (hT : T.data.toList = L) {k : Nat} {l : Int} {st : Bool} (b : Nat) (hb : b ≤ 36) (hlen : T.size ≤ 65536) (hk : k ≤ L.length) (w : World) (h : Sb B T k l st w) :
    Calls Tryz.prog 185 #[.pointer (some ⟨B,0,none⟩),.int .i64 (b:Int)] w fun e w'=>e = .returned (.string (T.extract k (en (dgb b) L k)))∧Mv B T (en (dgb b) L k:Nat) l st w w':=by
  have hs:T.size=L.length:=by rw [← hT];simp
  have HX:IxAll T L:=fun j c hj=>ix T L hT j c hj
  have HID:Hid (∀ (c:UInt8) (w:World),Calls Tryz.prog 193 #[.int .u8 (c.toNat:Int)] w fun e w'=>e = .returned (.int .i64 (Rd.dw c:Int))∧w'=w):=Rd.impl_dig
  obtain ⟨M,hM,hLM⟩:∃ M:Int,M≤65536∧(L.length:Int)≤M:=⟨L.length,by omega,Int.le_refl _⟩
  have c1:=h.c1
  have HS:Hid (Mv B T k l st w w):=Mv.refl h
  have hbI:(b:Int)≤36:=by omega
  clear hT hlen h
  go_enter Tryz.func185,Tryz.ntmps185
  go_wp2_with fail
  clear c1
  go_loopw [] (fun wr=>∃ j:Nat,k≤j∧j≤L.length∧Hid (Mv B T j l st w wr∧en (dgb b) L k=en (dgb b) L j)) (fun wr=>L.length - atOf B wr)
  case atStart=>exact ⟨k,Nat.le_refl _,hk,(⟨HS,rfl⟩:Mv B T k l st w w∧en (dgb b) L k=en (dgb b) L k)⟩
  case round =>
    clear HS
    obtain ⟨j,hkj,hj,HR⟩:=hrel
    obtain ⟨hK,hE⟩:=(show Mv B T j l st w wr∧en (dgb b) L k=en (dgb b) L j from HR)
    clear HR
    have hat:=atOf_sb hK.2
    have hjM:(j:Int)≤M:=by omega
    have b0:=hK.2.c0
    have b1:=hK.2.c1
    have f1:=hK.2.fz 1
    have hsl:∀ W:World,(Instr.slice 9 (.string T) (some (.int .i64 (k:Int))) (some (.int .i64 (j:Int))) none).run Tryz.prog W = .ok (.string (T.extract k j)) W:=by
      intro W
      rw [run_slice_string (P:=Tryz.prog) W 9 T .i64 .i64 (k:Int) (j:Int) Tryz.underlying9 (by omega) (by omega) (by omega)]
      simp
    rcases Nat.lt_or_ge j L.length with hjn | hjn
    · have hx:=List.getElem?_eq_getElem hjn
      have hix:=HX j _ hx
      generalize L[j]=x at hx hix
      have he:=ended_in B T j l st false (by simp;omega) wr hK.2
      have hdig:=(show ∀ (c:UInt8) (w:World),_ from HID) x
      by_cases hgo:dgb b x=true
      · have hd2:(Rd.dw x:Int) < (b:Int):=by unfold dgb at hgo;simp at hgo;omega
        have HN:Hid (∀ q,Mv B T ((j+1:Nat):Int) l st w ((wr.drewN q).setCell ⟨B,1,none⟩ (.int .i64 ((j:Int)+1)))∧en (dgb b) L k=en (dgb b) L (j+1)) :=
          (fun q=>⟨⟨(hK.1.drewN q).setCell 1 _,(hK.2.drewN q).set1 _⟩,hE.trans (en_step hx hgo)⟩:∀ q,Mv B T ((j+1:Nat):Int) l st w ((wr.drewN q).setCell ⟨B,1,none⟩ (.int .i64 ((j:Int)+1)))∧en (dgb b) L k=en (dgb b) L (j+1))
        clear hK hE HID HX hx hgo hsl
        generalize (Rd.dw x:Int)=dd at *
        generalize (x.toNat:Int)=xi at *
        go_wp2_with fail
        go_quiet ((first | (go_at_call 171;exact he _) | (go_at_call 193;exact Calls.quiet_of_same (hdig _))))
        go_wp2_with fail
        have hN:=(show ∀ q,_ from HN) nq
        refine ⟨⟨j+1,by omega,by omega,hN⟩,?_⟩
        rw [atOf_sb hN.1.2,hat]
        omega
      · have hd2:¬ (Rd.dw x:Int) < (b:Int):=by unfold dgb at hgo;simp at hgo;omega
        have e:en (dgb b) L k=j:=hE.trans (en_stop hx (by simpa using hgo))
        have HE:Hid (en (dgb b) L k=j):=e
        have HKA:Hid (∀ q,Mv B T j l st w (wr.drewN q)):=(fun q=>⟨hK.1.drewN q,hK.2⟩:∀ q,Mv B T j l st w (wr.drewN q))
        clear hK hE HID HX hx hgo e
        generalize (Rd.dw x:Int)=dd at *
        generalize (x.toNat:Int)=xi at *
        go_wp2_with fail
        go_quiet ((first | (go_at_call 171;exact he _) | (go_at_call 193;exact Calls.quiet_of_same (hdig _))))
        go_wp2_with fail
        clear he hdig hix
        obtain ⟨W,hWe,hKW⟩:∃ W,W=wr.drewN nq∧Mv B T j l st w W:=⟨_,rfl,(show ∀ q,_ from HKA) nq⟩
        rw [← hWe]
        clear b0 b1 f1 hat hWe HKA
        have b0:=hKW.2.c0
        have b1:=hKW.2.c1
        have HKW:Hid (Mv B T j l st w W):=hKW
        clear hKW
        go_quiet (fail)
        go_wp2_with fail
        go_ret
        have hEE:=(show en (dgb b) L k=j from HE)
        rw [hEE]
        exact ⟨rfl,(show Mv B T j l st w W from HKW).1.drewN _,(show Mv B T j l st w W from HKW).2⟩
    · have he:=ended_in B T j l st true (by simp;omega) wr hK.2
      have e:en (dgb b) L k=j:=hE.trans (en_end hjn)
      have HE:Hid (en (dgb b) L k=j):=e
      have HKA:Hid (∀ q,Mv B T j l st w (wr.drewN q)):=(fun q=>⟨hK.1.drewN q,hK.2⟩:∀ q,Mv B T j l st w (wr.drewN q))
      clear hK hE HID HX e
      go_wp2_with fail
      go_quiet ((first | (go_at_call 171;exact he _)))
      go_wp2_with fail
      clear he
      obtain ⟨W,hWe,hKW⟩:∃ W,W=wr.drewN nq∧Mv B T j l st w W:=⟨_,rfl,(show ∀ q,_ from HKA) nq⟩
      rw [← hWe]
      clear b0 b1 f1 hat hWe HKA
      have b0:=hKW.2.c0
      have b1:=hKW.2.c1
      have HKW:Hid (Mv B T j l st w W):=hKW
      clear hKW
      go_quiet (fail)
      go_wp2_with fail
      go_ret
      have hEE:=(show en (dgb b) L k=j from HE)
      rw [hEE]
      exact ⟨rfl,(show Mv B T j l st w W from HKW).1.drewN _,(show Mv B T j l st w W from HKW).2⟩
def NoHex (L:List UInt8) (j:Nat):Prop:=L.length≤j∨∃ x,L[j]? = some x∧16≤Rd.dw x
theorem nohex_or (L:List UInt8) (j:Nat):NoHex L j∨∃ x,L[j]? = some x∧Rd.dw x < 16:=by
  cases h:L[j]? with
  | none=>exact .inl (.inl (List.getElem?_eq_none_iff.1 h))
  | some x =>
    rcases Nat.lt_or_ge (Rd.dw x) 16 with g | g
    · exact .inr ⟨x,rfl,g⟩
    · exact .inl (.inr ⟨x,h,g⟩)
theorem hexbyte_a {B : Nat} {T : ByteArray} (L : List UInt8) (hT : T.data.toList = L) {j : Nat} {l : Int} {st : Bool} (hlen : T.size ≤ 65536) (hj : j ≤ L.length) (hno : NoHex L j) (w : World) (h : Sb B T j l st w) :
    Calls Tryz.prog 195 #[.pointer (some ⟨B,0,none⟩)] w fun e w'=>e = .returned (.tuple #[.int .u8 0,.bool false])∧Mv B T j l st w w':=by
  have m0:=Mv.refl h
  clear h
  have hs:T.size=L.length:=by rw [← hT];simp
  have HX:IxAll T L:=fun j c hj=>ix T L hT j c hj
  have HID:Hid (∀ (c:UInt8) (w:World),Calls Tryz.prog 193 #[.int .u8 (c.toNat:Int)] w fun e w'=>e = .returned (.int .i64 (Rd.dw c:Int))∧w'=w):=Rd.impl_dig
  obtain ⟨M,hM,hLM⟩:∃ M:Int,M≤65536∧(L.length:Int)≤M:=⟨L.length,by omega,Int.le_refl _⟩
  clear hT hlen
  go_enter Tryz.func195,Tryz.ntmps195
  go_wp2_with fail
  refine wp_loop_rounds 1 ?_
  rw [rounds_succ]
  rcases hno with hend | ⟨y,hy,hyd⟩
  · have he:=ended_in B T (j:Int) l st true (by simp;omega) w m0.2
    have b0:=m0.2.c0
    have b1:=m0.2.c1
    have HF:Hid (∀ q,Mv B T (j:Int) l st w (w.drewN q)):=(fun q=>⟨m0.1.drewN q,m0.2⟩:∀ q,Mv B T (j:Int) l st w (w.drewN q))
    clear HX HID m0
    go_wp2_with fail
    go_quiet ((first | (go_at_call 171;exact he _)))
    go_wp2_with fail
    go_ret2
    exact ⟨rfl,(show ∀ q,_ from HF) nq⟩
  · have hlt:j < L.length:=(List.getElem?_eq_some_iff.1 hy).1
    have he:=ended_in B T (j:Int) l st false (by simp;omega) w m0.2
    have b0:=m0.2.c0
    have b1:=m0.2.c1
    have hix:=HX _ _ hy
    have hdig:=(show ∀ (c:UInt8) (w:World),_ from HID) y
    have hyI:(16:Int)≤(Rd.dw y:Int):=by omega
    have HF:Hid (∀ q,Mv B T (j:Int) l st w (w.drewN q)):=(fun q=>⟨m0.1.drewN q,m0.2⟩:∀ q,Mv B T (j:Int) l st w (w.drewN q))
    clear HX HID m0 hy hyd hlt
    generalize (Rd.dw y:Int)=dd at *
    generalize (y.toNat:Int)=yi at *
    go_wp2_with fail
    go_quiet ((first | (go_at_call 171;exact he _) | (go_at_call 193;exact Calls.quiet_of_same (hdig _))))
    go_wp2_with fail
    go_ret2
    exact ⟨rfl,(show ∀ q,_ from HF) nq⟩
theorem hexbyte_b {B : Nat} {T : ByteArray} (L : List UInt8) (hT : T.data.toList = L) {j : Nat} {l : Int} {st : Bool} (hlen : T.size ≤ 65536) (hj : j ≤ L.length) (x : UInt8) (hx : L[j]? = some x) (hxd : Rd.dw x < 16) (j1 : Nat) (hj1 : j1 = j + 1) (hno : NoHex L j1) (w : World) (h : Sb B T j l st w) :
    Calls Tryz.prog 195 #[.pointer (some ⟨B,0,none⟩)] w fun e w'=>e = .returned (.tuple #[.int .u8 0,.bool false])∧Mv B T (j1:Int) l st w w':=by
  have m0:=Mv.refl h
  have HJ1:Hid (j1=j+1):=hj1
  clear h hj1
  have hs:T.size=L.length:=by rw [← hT];simp
  have HX:IxAll T L:=fun j c hj=>ix T L hT j c hj
  have HID:Hid (∀ (c:UInt8) (w:World),Calls Tryz.prog 193 #[.int .u8 (c.toNat:Int)] w fun e w'=>e = .returned (.int .i64 (Rd.dw c:Int))∧w'=w):=Rd.impl_dig
  obtain ⟨M,hM,hLM⟩:∃ M:Int,M≤65536∧(L.length:Int)≤M:=⟨L.length,by omega,Int.le_refl _⟩
  clear hT hlen
  go_enter Tryz.func195,Tryz.ntmps195
  go_wp2_with fail
  refine wp_loop_rounds 2 ?_
  rw [rounds_succ]
  have hlt1:j < L.length:=(List.getElem?_eq_some_iff.1 hx).1
  have he:=ended_in B T (j:Int) l st false (by simp;omega) w m0.2
  have b0:=m0.2.c0
  have b1:=m0.2.c1
  have hix:=HX _ _ hx
  have hdig:=(show ∀ (c:UInt8) (w:World),_ from HID) x
  have hxI:(Rd.dw x:Int) < 16:=by omega
  have hx0:(0:Int)≤(Rd.dw x:Int):=by omega
  have hkM:(j:Int)≤M:=by omega
  have HXH:Hid (IxAll T L):=HX
  have HC:Hid (Mv B T (j:Int) l st w w):=m0
  clear HX m0
  generalize hgd1:(Rd.dw x:Int)=d1 at *
  generalize (x.toNat:Int)=xi1 at hix hdig
  go_wp2_with fail
  go_quiet ((first | (go_at_call 171;exact he _) | (go_at_call 193;exact Calls.quiet_of_same (hdig _))))
  obtain ⟨V1,hV1,m1⟩:∃ V,V=w.drewN nq∧Mv B T (j:Int) l st w V:=⟨_,rfl,⟨HC.1.drewN nq,HC.2⟩⟩
  rw [← hV1]
  clear b0 b1 he hV1 HC
  have b0:=m1.2.c0
  have b1:=m1.2.c1
  have HC:Hid (Mv B T (j:Int) l st w V1):=m1
  clear m1
  go_wp2_with fail
  go_quiet ((first | (go_at_call 193;exact Calls.quiet_of_same (hdig _))))
  obtain ⟨U1,hU1,m1⟩:∃ V,V=V1.drewN nq∧Mv B T (j:Int) l st w V:=⟨_,rfl,⟨HC.1.drewN nq,HC.2⟩⟩
  rw [← hU1]
  clear b0 b1 hU1 HC hdig hix
  have b1:=m1.2.c1
  have f1:=m1.2.fz 1
  have n1:Mv B T ((j+1:Nat):Int) l st w (U1.setCell ⟨B,1,none⟩ (.int .i64 ((j:Int)+1))):=⟨m1.1.setCell 1 _,m1.2.set1 _⟩
  have HN1:Hid (Mv B T ((j+1:Nat):Int) l st w (U1.setCell ⟨B,1,none⟩ (.int .i64 ((j:Int)+1)))):=n1
  clear m1 n1
  go_wp2_with fail
  rw [rounds_succ]
  obtain ⟨Z,hZ,mz⟩:∃ Z,Z=U1.setCell ⟨B,1,none⟩ (.int .i64 ((j:Int)+1))∧Mv B T ((j+1:Nat):Int) l st w Z:=⟨_,rfl,HN1⟩
  rw [← hZ]
  clear HN1 hZ b1 f1
  have HX:IxAll T L:=HXH
  clear HXH
  have hj1:=(show j1=j+1 from HJ1)
  rw [← hj1] at mz
  have hj1L:j1≤L.length:=by omega
  clear hj1 HJ1
  rcases hno with hend | ⟨y,hy,hyd⟩
  · have he:=ended_in B T (j1:Int) l st true (by simp;omega) Z mz.2
    have b0:=mz.2.c0
    have b1:=mz.2.c1
    have HF:Hid (∀ q,Mv B T (j1:Int) l st w (Z.drewN q)):=(fun q=>⟨mz.1.drewN q,mz.2⟩:∀ q,Mv B T (j1:Int) l st w (Z.drewN q))
    clear HX HID mz
    go_wp2_with fail
    go_quiet ((first | (go_at_call 171;exact he _)))
    go_wp2_with fail
    go_ret2
    exact ⟨rfl,(show ∀ q,_ from HF) nq⟩
  · have hlt:j1 < L.length:=(List.getElem?_eq_some_iff.1 hy).1
    have he:=ended_in B T (j1:Int) l st false (by simp;omega) Z mz.2
    have b0:=mz.2.c0
    have b1:=mz.2.c1
    have hix:=HX _ _ hy
    have hdig:=(show ∀ (c:UInt8) (w:World),_ from HID) y
    have hyI:(16:Int)≤(Rd.dw y:Int):=by omega
    have HF:Hid (∀ q,Mv B T (j1:Int) l st w (Z.drewN q)):=(fun q=>⟨mz.1.drewN q,mz.2⟩:∀ q,Mv B T (j1:Int) l st w (Z.drewN q))
    clear HX HID mz hy hyd hlt
    generalize (Rd.dw y:Int)=dd at *
    generalize (y.toNat:Int)=yi at *
    go_wp2_with fail
    go_quiet ((first | (go_at_call 171;exact he _) | (go_at_call 193;exact Calls.quiet_of_same (hdig _))))
    go_wp2_with fail
    go_ret2
    exact ⟨rfl,(show ∀ q,_ from HF) nq⟩
theorem hexbyte_c {B : Nat} {T : ByteArray} (L : List UInt8) (hT : T.data.toList = L) {j : Nat} {l : Int} {st : Bool} (hlen : T.size ≤ 65536) (hj : j ≤ L.length) (x y : UInt8) (hx : L[j]? = some x) (hxd : Rd.dw x < 16) (j1 : Nat) (hj1 : j1 = j + 1) (hy : L[j1]? = some y) (hyd : Rd.dw y < 16) (w : World) (h : Sb B T j l st w) :
    Calls Tryz.prog 195 #[.pointer (some ⟨B,0,none⟩)] w fun e w'=>e = .returned (.tuple #[.int .u8 ((Rd.dw x:Int)*16+(Rd.dw y:Int)),.bool true])∧Mv B T ((j1+1:Nat):Int) l st w w':=by
  have m0:=Mv.refl h
  have HJ1:Hid (j1=j+1):=hj1
  clear h hj1
  have hs:T.size=L.length:=by rw [← hT];simp
  have HX:IxAll T L:=fun j c hj=>ix T L hT j c hj
  have HID:Hid (∀ (c:UInt8) (w:World),Calls Tryz.prog 193 #[.int .u8 (c.toNat:Int)] w fun e w'=>e = .returned (.int .i64 (Rd.dw c:Int))∧w'=w):=Rd.impl_dig
  obtain ⟨M,hM,hLM⟩:∃ M:Int,M≤65536∧(L.length:Int)≤M:=⟨L.length,by omega,Int.le_refl _⟩
  clear hT hlen
  go_enter Tryz.func195,Tryz.ntmps195
  go_wp2_with fail
  refine wp_loop_rounds 3 ?_
  rw [rounds_succ]
  have hlt1:j < L.length:=(List.getElem?_eq_some_iff.1 hx).1
  have he:=ended_in B T (j:Int) l st false (by simp;omega) w m0.2
  have b0:=m0.2.c0
  have b1:=m0.2.c1
  have hix:=HX _ _ hx
  have hdig:=(show ∀ (c:UInt8) (w:World),_ from HID) x
  have hxI:(Rd.dw x:Int) < 16:=by omega
  have hx0:(0:Int)≤(Rd.dw x:Int):=by omega
  have hkM:(j:Int)≤M:=by omega
  have HXH:Hid (IxAll T L):=HX
  have HC:Hid (Mv B T (j:Int) l st w w):=m0
  clear HX m0
  generalize hgd1:(Rd.dw x:Int)=d1 at *
  generalize (x.toNat:Int)=xi1 at hix hdig
  go_wp2_with fail
  go_quiet ((first | (go_at_call 171;exact he _) | (go_at_call 193;exact Calls.quiet_of_same (hdig _))))
  obtain ⟨V1,hV1,m1⟩:∃ V,V=w.drewN nq∧Mv B T (j:Int) l st w V:=⟨_,rfl,⟨HC.1.drewN nq,HC.2⟩⟩
  rw [← hV1]
  clear b0 b1 he hV1 HC
  have b0:=m1.2.c0
  have b1:=m1.2.c1
  have HC:Hid (Mv B T (j:Int) l st w V1):=m1
  clear m1
  go_wp2_with fail
  go_quiet ((first | (go_at_call 193;exact Calls.quiet_of_same (hdig _))))
  obtain ⟨U1,hU1,m1⟩:∃ V,V=V1.drewN nq∧Mv B T (j:Int) l st w V:=⟨_,rfl,⟨HC.1.drewN nq,HC.2⟩⟩
  rw [← hU1]
  clear b0 b1 hU1 HC hdig hix
  have b1:=m1.2.c1
  have f1:=m1.2.fz 1
  have n1:Mv B T ((j+1:Nat):Int) l st w (U1.setCell ⟨B,1,none⟩ (.int .i64 ((j:Int)+1))):=⟨m1.1.setCell 1 _,m1.2.set1 _⟩
  have HN1:Hid (Mv B T ((j+1:Nat):Int) l st w (U1.setCell ⟨B,1,none⟩ (.int .i64 ((j:Int)+1)))):=n1
  clear m1 n1
  go_wp2_with fail
  rw [rounds_succ]
  obtain ⟨Z,hZ,mz⟩:∃ Z,Z=U1.setCell ⟨B,1,none⟩ (.int .i64 ((j:Int)+1))∧Mv B T ((j+1:Nat):Int) l st w Z:=⟨_,rfl,HN1⟩
  rw [← hZ]
  clear HN1 hZ b1 f1
  have HX:IxAll T L:=HXH
  clear HXH hxI hx0 hkM
  have hd1a:d1 < 16:=by omega
  have hd1b : 0≤d1:=by omega
  have hj1:=(show j1=j+1 from HJ1)
  rw [← hj1] at mz
  clear hj1 HJ1
  have hlt2:j1 < L.length:=(List.getElem?_eq_some_iff.1 hy).1
  have he:=ended_in B T (j1:Int) l st false (by simp;omega) Z mz.2
  have b0:=mz.2.c0
  have b1:=mz.2.c1
  have hix:=HX _ _ hy
  have hdig:=(show ∀ (c:UInt8) (w:World),_ from HID) y
  have hxI:(Rd.dw y:Int) < 16:=by omega
  have hx0:(0:Int)≤(Rd.dw y:Int):=by omega
  have hkM:(j1:Int)≤M:=by omega
  have HXH:Hid (IxAll T L):=HX
  have HC:Hid (Mv B T (j1:Int) l st w Z):=mz
  clear HX mz
  generalize hgd2:(Rd.dw y:Int)=d2 at *
  generalize (y.toNat:Int)=xi2 at hix hdig
  go_wp2_with fail
  go_quiet ((first | (go_at_call 171;exact he _) | (go_at_call 193;exact Calls.quiet_of_same (hdig _))))
  obtain ⟨V2,hV2,m2⟩:∃ V,V=Z.drewN nq∧Mv B T (j1:Int) l st w V:=⟨_,rfl,⟨HC.1.drewN nq,HC.2⟩⟩
  rw [← hV2]
  clear b0 b1 he hV2 HC
  have b0:=m2.2.c0
  have b1:=m2.2.c1
  have HC:Hid (Mv B T (j1:Int) l st w V2):=m2
  clear m2
  go_wp2_with fail
  go_quiet ((first | (go_at_call 193;exact Calls.quiet_of_same (hdig _))))
  obtain ⟨U2,hU2,m2⟩:∃ V,V=V2.drewN nq∧Mv B T (j1:Int) l st w V:=⟨_,rfl,⟨HC.1.drewN nq,HC.2⟩⟩
  rw [← hU2]
  clear b0 b1 hU2 HC hdig hix
  have b1:=m2.2.c1
  have f1:=m2.2.fz 1
  have n2:Mv B T ((j1+1:Nat):Int) l st w (U2.setCell ⟨B,1,none⟩ (.int .i64 ((j1:Int)+1))):=⟨m2.1.setCell 1 _,m2.2.set1 _⟩
  have HN2:Hid (Mv B T ((j1+1:Nat):Int) l st w (U2.setCell ⟨B,1,none⟩ (.int .i64 ((j1:Int)+1)))):=n2
  clear m2 n2
  go_wp2_with fail
  rw [rounds_succ]
  go_wp2_with fail
  go_ret2
  exact ⟨by rw [hgd1,hgd2];rfl,HN2⟩
inductive Elt (L:List UInt8) (j:Nat):Bool→Int→Nat→Prop
  | plain (x:UInt8) (h:L[j]? = some x) (hx:x ≠ 92):Elt L j true (x.toNat:Int) (j+1)
  | simple (c:UInt8) (v:Int) (h:L[j]? = some 92) (hc:L[j+1]? = some c) (hv:(c=110∧v=10)∨(c=116∧v=9)∨(c=34∧v=34)∨(c=92∧v=92)):Elt L j true v (j+2)
  | hex (x y:UInt8) (h:L[j]? = some 92) (hc:L[j+1]? = some 120) (hx:L[j+2]? = some x) (hxd:Rd.dw x < 16) (hy:L[j+3]? = some y) (hyd:Rd.dw y < 16):Elt L j true ((Rd.dw x:Int)*16+(Rd.dw y:Int)) (j+4)
  | hexA (h:L[j]? = some 92) (hc:L[j+1]? = some 120) (hno:NoHex L (j+2)):Elt L j false 0 (j+2)
  | hexB (x:UInt8) (h:L[j]? = some 92) (hc:L[j+1]? = some 120) (hx:L[j+2]? = some x) (hxd:Rd.dw x < 16) (hno:NoHex L (j+3)):Elt L j false 0 (j+3)
  | none (h:L[j]? = some 92) (hc:L[j+1]? ≠ some 110∧L[j+1]? ≠ some 116∧L[j+1]? ≠ some 34∧L[j+1]? ≠ some 92∧L[j+1]? ≠ some 120):Elt L j false 0 (j+1)
theorem elt_any (L:List UInt8) (j:Nat) (hj:j < L.length):∃ ok v e,Elt L j ok v e:=by
  have hx:=List.getElem?_eq_getElem hj
  by_cases h92:L[j]=92
  · rw [h92] at hx
    by_cases h1:L[j+1]? = some 110
    · exact ⟨_,_,_,.simple 110 10 hx h1 (.inl ⟨rfl,rfl⟩)⟩
    · by_cases h2:L[j+1]? = some 116
      · exact ⟨_,_,_,.simple 116 9 hx h2 (.inr (.inl ⟨rfl,rfl⟩))⟩
      · by_cases h3:L[j+1]? = some 34
        · exact ⟨_,_,_,.simple 34 34 hx h3 (.inr (.inr (.inl ⟨rfl,rfl⟩)))⟩
        · by_cases h4:L[j+1]? = some 92
          · exact ⟨_,_,_,.simple 92 92 hx h4 (.inr (.inr (.inr ⟨rfl,rfl⟩)))⟩
          · by_cases h5:L[j+1]? = some 120
            · rcases nohex_or L (j+2) with hn | ⟨x,hx1,hx2⟩
              · exact ⟨_,_,_,.hexA hx h5 hn⟩
              · rcases nohex_or L (j+3) with hn | ⟨y,hy1,hy2⟩
                · exact ⟨_,_,_,.hexB x hx h5 hx1 hx2 hn⟩
                · exact ⟨_,_,_,.hex x y hx h5 hx1 hx2 hy1 hy2⟩
            · exact ⟨_,_,_,.none hx ⟨h1,h2,h3,h4,h5⟩⟩
  · exact ⟨_,_,_,.plain _ hx h92⟩
theorem Elt.gt {L:List UInt8} {j:Nat} {ok:Bool} {v:Int} {e:Nat} (h:Elt L j ok v e):j < e:=by cases h <;> omega
theorem Elt.le {L:List UInt8} {j:Nat} {ok:Bool} {v:Int} {e:Nat} (h:Elt L j ok v e):e≤L.length:=by
  have lt:∀ {i:Nat} {x:UInt8},L[i]? = some x→i < L.length:=fun hx=>(List.getElem?_eq_some_iff.1 hx).1
  cases h with
  | plain x h hx=>have:=lt h;omega
  | simple c v h hc hv=>have:=lt hc;omega
  | hex x y h hc hx hxd hy hyd=>have:=lt hy;omega
  | hexA h hc hno=>have:=lt hc;omega
  | hexB x h hc hx hxd hno=>have:=lt hx;omega
  | none h hc=>have:=lt h;omega
end Go.Proofs.YtomcmnompajnlaaGreatDoor
