import Derived.Test.YtomcmnompajnlaaGreatDoorBSda
import Derived.Deep.Cut
import Derived.Deep.CutBlock
import Derived.Deep.Light
set_option maxRecDepth 100000
set_option maxHeartbeats 4000000
namespace Go.Proofs.YtomcmnompajnlaaGreatDoor
open Go.ChangeShapes Go.WideShapes Go.ChangeAt Go.RowKit
set_option linter.unusedVariables false
def ImP (B:Nat) (T:ByteArray) (kd:Int) (tn:Nat) (nu:Int) (tx:ByteArray) (l:Int) (st:Bool) (w:World) (e:Ending) (w':World):Prop:=e = .returned (tokV kd 0 0 0 nu tx)∧Mv B T (tn:Int) l st w w'
theorem en_ten (L:List UInt8) (k:Nat):en (dgb 10) L k=en isD L k:=by rw [show dgb 10=isD from funext dgb_ten]
theorem take_if {B : Nat} {T : ByteArray} (L : List UInt8) (hT : T.data.toList = L) {k : Nat} {l : Int} {st : Bool} (c : UInt8) (hc : c ≠ 0) (ci : Int) (hci : ci = (c.toNat : Int)) (hlen : T.size ≤ 65536) (hk : k ≤ L.length) (w : World) (h : Sb B T k l st w) :
    Calls Tryz.prog 173 #[.pointer (some ⟨B,0,none⟩),.int .u8 ci] w fun e w'=>e = .returned (.bool (decide (lk L k=c)))∧Mv B T ((if lk L k=c then k+1 else k:Nat):Int) l st w w':=by
  have hs:T.size=L.length:=by rw [← hT];simp
  by_cases hx:lk L k=c
  · have hkl:k < L.length:=lk_lt hc hx
    have:=take_mv c ci hci true (k+1) hlen (by omega) (by rw [hT];exact .inl ⟨by rw [← hx];exact lk_at hkl,rfl,rfl⟩) w h
    rw [decide_eq_true hx,if_pos hx]
    exact this
  · have:=take_mv c ci hci false k hlen (by omega) (by rw [hT];exact .inr ⟨fun g=>hx (lk_some g),rfl,rfl⟩) w h
    rw [decide_eq_false hx,if_neg hx]
    exact this
theorem impl_num {B : Nat} {T : ByteArray} (L : List UInt8) (hT : T.data.toList = L) {k : Nat} {l : Int} {st : Bool} (hlen : T.size ≤ 65536) (hB : 10 ≤ B) (hd : isD (lk L k) = true) (hx0 : ¬ (lk L k = 48 ∧ lk L (k + 1) = 120)) {kd : Int} {tn : Nat} {nu : Int} {tx : ByteArray} (hn : Num T L k kd tn nu tx) (w : World) (hg : Gd w) (h : Sb B T k l st w) :
    Calls Tryz.prog 180 #[.pointer (some ⟨B,0,none⟩)] w (ImP B T kd tn nu tx l st w):=by
  have hs:T.size=L.length:=by rw [← hT];simp
  have hk:k < L.length:=isD_lt hd
  obtain ⟨M,hM,hLM⟩:∃ M:Int,M≤65536∧(L.length:Int)≤M:=⟨L.length,by omega,Int.le_refl _⟩
  have hkM:(k:Int)≤M:=by omega
  have hBlt:B < w.heap.size:=h.lt
  have hnB:w.heap.size ≠ B:=by omega
  have hz:=Mz.start h
  have hsee:=sees_run (l:=l) (st:=st) (B:=B) ⟨#[48,120]⟩ false (show k≤T.size by omega) (by
    rw [hT]
    cases hq:pre L k [48,120] with
    | false=>rfl
    | true =>
      obtain ⟨q1,q2⟩:=(pre_two L k 48 120).1 hq
      exact (hx0 ⟨lk_some q1,lk_some q2⟩).elim) _ hz.1.2
  obtain ⟨W0,hW0,HZ0⟩:∃ W0,W0=w.alloc (.cells #[.int .i64 0,.int .i64 0,.int .i64 0,.int .i64 0,.int .i64 0,.string ⟨#[]⟩] 179)∧Hid (Mz B w.heap.size T k l st w W0):=⟨_,rfl,hz⟩
  rw [← hW0] at hsee
  obtain ⟨a,ha⟩:∃ a,q1 L k=a:=⟨_,rfl⟩
  obtain ⟨b,hb⟩:∃ b,q2 L a=b:=⟨_,rfl⟩
  have haL:=q1_le (L:=L) hk
  rw [ha] at haL
  have hbL:=q2_le (L:=L) haL.2
  rw [hb] at hbL
  have HA:Hid (q1 L k=a∧q2 L a=b∧isD (lk L k)=true):=(⟨ha,hb,hd⟩:_∧_∧_)
  have HN:Hid (Num T L k kd tn nu tx):=hn
  have HG:Hid (Gd w):=hg
  have HC:Hid (T.data.toList=L∧T.size≤65536∧10≤B∧isD (lk L k)=true):=(⟨hT,hlen,hB,hd⟩:_∧_∧_∧_)
  clear hg h hz hd hx0 hn ha hb hlen hB hT
  go_enter Tryz.func180,Tryz.ntmps180
  go_wp2_with fail
  rw [← hW0]
  clear hW0
  refine hsee.mono ?_
  rintro e w1 ⟨rfl,m,hw1⟩
  have HZ1:Hid (Mz B w.heap.size T k l st w w1):=by rw [hw1];exact (show Mz B w.heap.size T k l st w W0 from HZ0).drewN m
  clear hsee HZ0 hw1
  have b1:=HZ1.1.2.c1
  have htk:=take_if L HC.1 (k:=k) (l:=l) (st:=st) 48 (by decide) 48 rfl HC.2.1 (by omega) w1 HZ1.1.2
  go_upto_if 21 with (go_at_call 173;refine htk.mono ?_;rintro e w2 ⟨rfl,m2⟩)
  have HZ2:Hid (Mz B w.heap.size T ((if lk L k=48 then k+1 else k:Nat):Int) l st w w2):=HZ1.trans m2 hnB
  clear htk m2 b1 HZ1
  go_cut [] from 6 (fun wc=>Mz B w.heap.size T (a:Int) l st w wc)
  case first =>
    obtain ⟨hqa,hqb,hd⟩:=(show q1 L k=a∧q2 L a=b∧isD (lk L k)=true from HA)
    have hz2:=(show Mz B w.heap.size T ((if lk L k=48 then k+1 else k:Nat):Int) l st w w2 from HZ2)
    unfold q1 at hqa
    by_cases h48:lk L k=48
    · rw [if_pos h48] at hqa hz2
      rw [decide_eq_true h48]
      have HQ:Hid (Mz B w.heap.size T (a:Int) l st w w2):=by rw [← hqa];exact hz2
      clear hqa hqb hd hz2 HZ2 h48
      go_wp2_with fail
      go_meet
      case rel=>exact HQ
    · rw [if_neg h48] at hqa hz2
      rw [decide_eq_false h48]
      have hdg:=impl_digits L HC.1 (k:=k) 10 (by decide) HC.2.1 (by omega) w2 hz2.1.2
      rw [en_ten,(en_at isD_zero hd).1,hqa] at hdg
      have HQ2:Hid (Mz B w.heap.size T (k:Int) l st w w2):=hz2
      clear hqa hqb hd hz2 HZ2 h48
      go_wp2_with fail
      refine hdg.mono ?_
      rintro e w3 ⟨rfl,m3⟩
      have HQ:Hid (Mz B w.heap.size T (a:Int) l st w w3):=(show Mz B w.heap.size T (k:Int) l st w w2 from HQ2).trans m3 hnB
      clear hdg m3 HQ2
      go_wp2_with fail
      go_meet
      case rel=>exact HQ
  case rest =>
  have HZ3:Hid (Mz B w.heap.size T (a:Int) l st w wc):=hcut
  clear hcut HZ2
  obtain ⟨W3,hW3⟩:∃ W3,wc=W3:=⟨_,rfl⟩
  rw [hW3] at HZ3 ⊢
  clear hW3
  have hfr:=frac_mv L HC.1 (k:=a) (l:=l) (st:=st) HC.2.1 haL.2 (frc L a) rfl W3 HZ3.1.2
  go_upto_if 27 with (go_at_call 186;refine hfr.mono ?_;rintro e w4 ⟨rfl,m4⟩)
  have HZ4:Hid (Mz B w.heap.size T (a:Int) l st w w4):=HZ3.trans m4 hnB
  clear hfr m4 HZ3
  go_cut [] from 6 (fun wc=>Mz B w.heap.size T (b:Int) l st w wc)
  case first =>
    obtain ⟨hqa,hqb,hd⟩:=(show q1 L k=a∧q2 L a=b∧isD (lk L k)=true from HA)
    have hz4:=(show Mz B w.heap.size T (a:Int) l st w w4 from HZ4)
    unfold q2 at hqb
    cases hfc:frc L a with
    | true =>
      rw [hfc,if_pos rfl] at hqb
      have haL2:a < L.length:=by
        have hf:=hfc
        unfold frc at hf;simp at hf;exact lk_lt (by decide) hf.1
      have b1:=hz4.1.2.c1
      have f1:=hz4.1.2.fz 1
      obtain ⟨W5,hW5,HZ5⟩:∃ W5,W5=w4.setCell ⟨B,1,none⟩ (.int .i64 ((a:Int)+1))∧Hid (Mz B w.heap.size T ((a+1:Nat):Int) l st w W5):=⟨_,rfl,by rw [show ((a+1:Nat):Int)=(a:Int)+1 by omega];exact hz4.set1 hnB _⟩
      have haM:(a:Int) < M:=by omega
      have hdg:=impl_digits L HC.1 (k:=a+1) 10 (by decide) HC.2.1 (by omega) W5 HZ5.1.2
      rw [en_ten,hqb] at hdg
      clear hqa hqb hd hz4 HZ4 hfc haL2
      go_wp2_with fail
      rw [← hW5]
      clear hW5 b1 f1
      refine hdg.mono ?_
      rintro e w6 ⟨rfl,m6⟩
      have HQ:Hid (Mz B w.heap.size T (b:Int) l st w w6):=(show Mz B w.heap.size T ((a+1:Nat):Int) l st w W5 from HZ5).trans m6 hnB
      clear hdg m6 HZ5
      go_wp2_with fail
      go_meet
      case rel=>exact HQ
    | false =>
      rw [hfc,if_neg (by decide)] at hqb
      have HQ:Hid (Mz B w.heap.size T (b:Int) l st w w4):=by rw [← hqb];exact hz4
      clear hqa hqb hd hz4 HZ4 hfc
      go_wp2_with fail
      go_meet
      case rel=>exact HQ
  case rest =>
  have HZ5:Hid (Mz B w.heap.size T (b:Int) l st w wc):=hcut
  clear hcut HZ4
  obtain ⟨W5,hW5⟩:∃ W5,wc=W5:=⟨_,rfl⟩
  rw [hW5] at HZ5 ⊢
  clear hW5
  have hte:=take_if L HC.1 (k:=b) (l:=l) (st:=st) 101 (by decide) 101 rfl HC.2.1 hbL.2 W5 HZ5.1.2
  go_upto_if 44 with (go_at_call 173;refine hte.mono ?_;rintro e w6 ⟨rfl,m6⟩)
  have HZ6:Hid (Mz B w.heap.size T ((if lk L b=101 then b+1 else b:Nat):Int) l st w w6):=HZ5.trans m6 hnB
  clear hte m6 HZ5
  go_cut [] from 6 (fun wc=>Mz B w.heap.size T (tn:Int) l st w wc∧kd ≠ 0∧k < tn∧tn≤L.length)
  case first =>
    obtain ⟨hqa,hqb,hd⟩:=(show q1 L k=a∧q2 L a=b∧isD (lk L k)=true from HA)
    have hz6:=(show Mz B w.heap.size T ((if lk L b=101 then b+1 else b:Nat):Int) l st w w6 from HZ6)
    have hN:=(show Num T L k kd tn nu tx from HN)
    by_cases h101:lk L b=101
    · rw [if_pos h101] at hz6
      rw [decide_eq_true h101]
      have hbl:b < L.length:=lk_lt (by decide) h101
      obtain ⟨s,hse⟩:∃ s,sgn L (b+1)=s:=⟨_,rfl⟩
      have hsl:=sgn_le (L:=L) (k:=b+1) (by omega)
      rw [hse] at hsl
      have hsg:=sign_mv L HC.1 (k:=b+1) (l:=l) (st:=st) HC.2.1 (by omega) w6 hz6.1.2
      rw [hse] at hsg
      have hyes:(kd=0∧nu=0∧tx=⟨#[]⟩∧tn=s∧isD (lk L s)=false)∨(tn=en isD L s∧kd ≠ 0∧k < tn∧tn≤L.length∧isD (lk L s)=true):=by
        cases hN with
        | bad _ nb =>
          cases nb with | bad g1 g2=>rw [hqa,hqb,hse] at g2;exact .inl ⟨rfl,rfl,rfl,by rw [hqa,hqb,hse],g2⟩
        | flt _ nb =>
          have hle:=nb.le hk
          cases nb with
          | frac g1 g2=>rw [hqa,hqb] at g2;exact (g2 h101).elim
          | exp g1 g2=>rw [hqa,hqb,hse] at g2;exact .inr ⟨by rw [hqa,hqb,hse],by decide,hle.1,hle.2,g2⟩
        | int _ v nb hv =>
          cases nb with
          | plain g1 g2 =>
            rw [hqa] at g1 g2
            have:b=a:=by rw [← hqb];unfold q2;rw [g1,if_neg (by decide)]
            rw [this] at h101;exact (g2 h101).elim
        | big _ nb hv =>
          cases nb with
          | plain g1 g2 =>
            rw [hqa] at g1 g2
            have:b=a:=by rw [← hqb];unfold q2;rw [g1,if_neg (by decide)]
            rw [this] at h101;exact (g2 h101).elim
      have HQ6:Hid (Mz B w.heap.size T ((b+1:Nat):Int) l st w w6):=hz6
      have HY:Hid ((kd=0∧nu=0∧tx=⟨#[]⟩∧tn=s∧isD (lk L s)=false)∨(tn=en isD L s∧kd ≠ 0∧k < tn∧tn≤L.length∧isD (lk L s)=true)):=hyes
      clear hqa hqb hd hz6 HZ6 hN hse h101 hyes
      go_wp2_with fail
      refine hsg.mono ?_
      rintro e w7 ⟨⟨z7,rfl⟩,m7⟩
      have HQ7:Hid (Mz B w.heap.size T (s:Int) l st w w7):=(show Mz B w.heap.size T ((b+1:Nat):Int) l st w w6 from HQ6).trans m7 hnB
      clear hsg m7 HQ6
      have hdg:=impl_digits L HC.1 (k:=s) 10 (by decide) HC.2.1 hsl.2 w7 HQ7.1.2
      rw [en_ten] at hdg
      rcases (show (kd=0∧nu=0∧tx=⟨#[]⟩∧tn=s∧isD (lk L s)=false)∨(tn=en isD L s∧kd ≠ 0∧k < tn∧tn≤L.length∧isD (lk L s)=true) from HY) with ⟨y1,y2,y3,y4,y5⟩ | ⟨y1,y2,y3,y4,y5⟩
      · rw [en_no y5,ext_emptyD] at hdg
        have HYY:Hid (kd=0∧nu=0∧tx=⟨#[]⟩∧tn=s):=(⟨y1,y2,y3,y4⟩:_∧_∧_∧_)
        clear y1 y2 y3 y4 y5 HY
        go_wp2_with fail
        refine hdg.mono ?_
        rintro e w8 ⟨rfl,m8⟩
        have HQ8:Hid (Mz B w.heap.size T (s:Int) l st w w8):=(show Mz B w.heap.size T (s:Int) l st w w7 from HQ7).trans m8 hnB
        clear hdg m8 HQ7
        go_upto_region 12 with fail
        rename_i Kr hKr
        have HKR:Hid (∀ (a:Act) (w1:World),bodyPost Tryz.prog Tryz.f180 (ImP B T kd tn nu tx l st w) Exit.ret a w1→Kr a w1):=(fun a w1 h=>hKr a w1 (wp_ret h):∀ (a:Act) (w1:World),bodyPost Tryz.prog Tryz.f180 (ImP B T kd tn nu tx l st w) Exit.ret a w1→Kr a w1)
        go_light
        have z3:=HQ8.2
        have g0:=z3.c0
        have g1:=z3.c1
        have g2:=z3.c2
        have g3:=z3.c3
        have g4:=z3.c4
        have g5:=z3.c5
        have v0:=z3.f0
        have v1:=z3.f1
        have v2:=z3.f2
        have v3:=z3.f3
        have v4:=z3.f4
        have v5:=z3.f5
        have e0:=st6_c0 z3
        have e1:=st6_c1 z3
        have e2:=st6_c2 z3
        have e3:=st6_c3 z3
        have e4:=st6_c4 z3
        have e5:=st6_c5 z3
        have HM4:Hid (Mv B T (s:Int) l st w w8):=HQ8.1
        clear z3 HQ8
        go_wp2_with fail
        refine (show ∀ (a:Act) (w1:World),bodyPost Tryz.prog Tryz.f180 (ImP B T kd tn nu tx l st w) Exit.ret a w1→Kr a w1 from HKR) _ _ (bodyPost_ret (by simp [results,Tryz.results180,go_sem,e0,e1,e2,e3,e4,e5];rfl) rfl ?_)
        obtain ⟨y1,y2,y3,y4⟩:=(show kd=0∧nu=0∧tx=⟨#[]⟩∧tn=s from HYY)
        subst y1 y2 y3 y4
        exact ⟨rfl,st6_mv HM4 (Nat.le_refl _) hnB _ _ _ _ _ _⟩
      · have hne : (T.extract s (en isD L s)).toList.isEmpty = false := by
          obtain ⟨q1,q2⟩:=en_at isD_zero y5
          have:=en_ge isD L (s+1)
          exact ext_someD T s _ (by omega) (by rw [hs];exact en_le _ _ _ (by omega))
        rw [← y1] at hdg hne
        have HYY:Hid (kd ≠ 0∧k < tn∧tn≤L.length):=(⟨y2,y3,y4⟩:_∧_∧_)
        clear y1 y2 y3 y4 y5 HY
        generalize T.extract s tn=X at *
        go_wp2_with fail
        refine hdg.mono ?_
        rintro e w8 ⟨rfl,m8⟩
        have HQ8:Hid (Mz B w.heap.size T (tn:Int) l st w w8):=(show Mz B w.heap.size T (s:Int) l st w w7 from HQ7).trans m8 hnB
        clear hdg m8 HQ7
        go_wp2_with fail
        go_meet
        case rel=>exact ⟨HQ8,HYY⟩
    · rw [if_neg h101] at hz6
      rw [decide_eq_false h101]
      have hno:tn=b∧kd ≠ 0∧k < tn∧tn≤L.length:=by
        cases hN with
        | bad _ nb=>cases nb with | bad g1 g2=>rw [hqa,hqb] at g1;exact (h101 g1).elim
        | flt _ nb =>
          have hle:=nb.le hk
          cases nb with
          | frac g1 g2=>exact ⟨by rw [hqa,hqb],by decide,hle.1,hle.2⟩
          | exp g1 g2=>rw [hqa,hqb] at g1;exact (h101 g1).elim
        | int _ v nb hv =>
          have hle:=nb.le hk
          cases nb with
          | plain g1 g2 =>
            rw [hqa] at g1
            exact ⟨by rw [hqa,← hqb];unfold q2;rw [g1,if_neg (by decide)],by decide,hle.1,hle.2⟩
        | big _ nb hv =>
          have hle:=nb.le hk
          cases nb with
          | plain g1 g2 =>
            rw [hqa] at g1
            exact ⟨by rw [hqa,← hqb];unfold q2;rw [g1,if_neg (by decide)],by decide,hle.1,hle.2⟩
      have HQ:Hid (Mz B w.heap.size T (tn:Int) l st w w6∧kd ≠ 0∧k < tn∧tn≤L.length):=by rw [hno.1];exact ⟨hz6,hno.2.1,by omega,by omega⟩
      clear hqa hqb hd hz6 HZ6 hN h101 hno
      go_wp2_with fail
      go_meet
      case rel=>exact HQ
  case rest =>
  obtain ⟨hcz,hkd0,hkt,htL⟩:=hcut
  obtain ⟨W7,hW7⟩:∃ W7,wc=W7:=⟨_,rfl⟩
  rw [hW7] at hcz ⊢
  clear hW7 HZ6
  obtain ⟨q,hread,hans⟩:=read_num T L HC.1 (by rw [← hs];exact HC.2.1) k HC.2.2.2 (show Num T L k kd tn nu tx from HN) hkd0
  have htM:(tn:Int)≤M:=by omega
  have hsl:∀ W:World,(Instr.slice 9 (.string T) (some (.int .i64 (k:Int))) (some (.int .i64 (tn:Int))) none).run Tryz.prog W = .ok (.string (T.extract k tn)) W:=by
    intro W
    rw [run_slice_string (P:=Tryz.prog) W 9 T .i64 .i64 (k:Int) (tn:Int) Tryz.underlying9 (by omega) (by omega) (by omega)]
    simp
  have hsize:(T.extract k tn).size≤281474976710656:=by rw [ByteArray.size_extract];have:=HC.2.1;omega
  have hcl:=fun W=>clone_run (T.extract k tn) hsize W
  have hgd:∀ m,Gd (W7.drewN m):=fun m=>(show Gd w from HG).kb HC.2.2.1 (hcz.drewN m).1.1
  have HZ7:Hid (∀ m,Mz B w.heap.size T (tn:Int) l st w (W7.drewN m)):=(fun m=>hcz.drewN m:∀ m,Mz B w.heap.size T (tn:Int) l st w (W7.drewN m))
  have HGD:Hid (∀ m,∃ te pe,(W7.drewN m).cell? ⟨9,0,none⟩=some (.iface te pe)):=(fun m=>(hgd m).err7:∀ m,∃ te pe,(W7.drewN m).cell? ⟨9,0,none⟩=some (.iface te pe))
  have b0:=hcz.1.2.c0
  have b1:=hcz.1.2.c1
  have HANS:Hid ((kd=2∧q=(0,nu)∧tx=⟨#[]⟩)∨(kd=3∧q.1 ≠ 0∧nu=0∧tx=T.extract k tn)):=hans
  have hnW:w.heap.size < W7.heap.size:=hcz.2.lt
  clear hcz hans hsize hgd HG HN HC HA haL hbL hkd0
  generalize T.extract k tn=X at *
  obtain ⟨q1,q2⟩:=q
  go_upto_region 13 with fail
  go_quiet (fail)
  clear hsl b0 b1
  obtain ⟨te,pe,h7⟩:=(show ∀ m,∃ te pe,(W7.drewN m).cell? ⟨9,0,none⟩=some (.iface te pe) from HGD) nq
  have hrd:=hread (W7.drewN nq) te pe h7
  have HZ8:Hid (Mz B w.heap.size T (tn:Int) l st w (W7.drewN nq)):=HZ7 nq
  clear hread h7 HGD HZ7
  have hnW8:w.heap.size < (W7.drewN nq).heap.size:=hnW
  clear hnW
  generalize W7.drewN nq=W8 at *
  unfold Rd.whole at hrd
  go_wp2_with fail
  refine hrd.mono ?_
  rintro e w9 ⟨rfl,k9⟩
  have HZ9:Hid (Mz B w.heap.size T (tn:Int) l st w w9):=by
    have hz:=(show Mz B w.heap.size T (tn:Int) l st w W8 from HZ8)
    have hk9:Kb B W8 w9:=Kb.of_kept k9
    have hk8:Kb W8.heap.size W8 w9:=Kb.of_kept k9
    have hlt:=hz.1.2.lt
    exact hz.trans ⟨hk9,(hk8.block B hlt (by omega)).trans hz.1.2⟩ hnB
  clear hrd k9 HZ8
  obtain ⟨W10,hW10,HZ10,cA,cB⟩:∃ W10,W10=w9.alloc (.cells #[.int .i64 q1,.int .i64 q2] 229)∧Hid (Mz B w.heap.size T (tn:Int) l st w W10)∧W10.cell? ⟨w9.heap.size,0,none⟩=some (.int .i64 q1)∧W10.cell? ⟨w9.heap.size,1,none⟩=some (.int .i64 q2) :=
    ⟨_,rfl,(show Mz B w.heap.size T (tn:Int) l st w w9 from HZ9).trans (Mv.below HZ9.1.2 ((Below.refl _ w9).alloc (Nat.le_refl _) _) (Nat.le_refl _)) hnB,by simp,by simp⟩
  go_upto_region 15 with fail
  rw [← hW10]
  clear hW10 HZ9
  rcases (show (kd=2∧(q1,q2)=((0:Int),nu)∧tx=⟨#[]⟩)∨(kd=3∧(q1,q2).1 ≠ 0∧nu=0∧tx=X) from HANS) with ⟨y1,y2,y3⟩ | ⟨y1,y2,y3,y4⟩
  · have HYY:Hid (kd=2∧nu=q2∧tx=⟨#[]⟩):=(⟨y1,(congrArg Prod.snd y2).symm,y3⟩:_∧_∧_)
    have e10:q1=0:=congrArg Prod.fst y2
    rw [e10] at cA
    clear y1 y2 y3 e10 HANS hcl
    go_upto_region 16 with fail
    rename_i Kr hKr
    have HKR:Hid (∀ (a:Act) (w1:World),bodyPost Tryz.prog Tryz.f180 (ImP B T kd tn nu tx l st w) Exit.ret a w1→Kr a w1):=(fun a w1 h=>hKr a w1 (wp_ret h):∀ (a:Act) (w1:World),bodyPost Tryz.prog Tryz.f180 (ImP B T kd tn nu tx l st w) Exit.ret a w1→Kr a w1)
    go_light
    have z3:=HZ10.2
    have g0:=z3.c0
    have g1:=z3.c1
    have g2:=z3.c2
    have g3:=z3.c3
    have g4:=z3.c4
    have g5:=z3.c5
    have v0:=z3.f0
    have v1:=z3.f1
    have v2:=z3.f2
    have v3:=z3.f3
    have v4:=z3.f4
    have v5:=z3.f5
    have e0:=st6_c0 z3
    have e1:=st6_c1 z3
    have e2:=st6_c2 z3
    have e3:=st6_c3 z3
    have e4:=st6_c4 z3
    have e5:=st6_c5 z3
    have HM4:Hid (Mv B T (tn:Int) l st w W10):=HZ10.1
    clear z3 HZ10
    go_wp2_with fail
    refine (show ∀ (a:Act) (w1:World),bodyPost Tryz.prog Tryz.f180 (ImP B T kd tn nu tx l st w) Exit.ret a w1→Kr a w1 from HKR) _ _ (bodyPost_ret (by simp [results,Tryz.results180,go_sem,e0,e1,e2,e3,e4,e5];rfl) rfl ?_)
    obtain ⟨y1,y2,y3⟩:=(show kd=2∧nu=q2∧tx=⟨#[]⟩ from HYY)
    subst y1 y2 y3
    exact ⟨rfl,st6_mv HM4 (Nat.le_refl _) hnB _ _ _ _ _ _⟩
  · have HYY:Hid (kd=3∧nu=0∧tx=X):=(⟨y1,y3,y4⟩:_∧_∧_)
    have e10:(q1 == 0)=false:=by simpa using y2
    have hc:=hcl W10
    clear y1 y2 y3 y4 HANS hcl cB
    go_upto_region 17 with fail
    rename_i Kr hKr
    have HKR:Hid (∀ (a:Act) (w1:World),bodyPost Tryz.prog Tryz.f180 (ImP B T kd tn nu tx l st w) Exit.ret a w1→Kr a w1):=(fun a w1 h=>hKr a w1 (wp_ret h):∀ (a:Act) (w1:World),bodyPost Tryz.prog Tryz.f180 (ImP B T kd tn nu tx l st w) Exit.ret a w1→Kr a w1)
    go_light
    clear cA
    go_wp2_with fail
    refine hc.mono ?_
    rintro e W11 ⟨rfl,hb11⟩
    have HZ11:Hid (Mz B w.heap.size T (tn:Int) l st w W11):=(show Mz B w.heap.size T (tn:Int) l st w W10 from HZ10).trans (Mv.below HZ10.1.2 hb11 (Nat.le_refl _)) hnB
    have z3:=HZ11.2
    have g0:=z3.c0
    have g1:=z3.c1
    have g2:=z3.c2
    have g3:=z3.c3
    have g4:=z3.c4
    have g5:=z3.c5
    have v0:=z3.f0
    have v1:=z3.f1
    have v2:=z3.f2
    have v3:=z3.f3
    have v4:=z3.f4
    have v5:=z3.f5
    have e0:=st6_c0 z3
    have e1:=st6_c1 z3
    have e2:=st6_c2 z3
    have e3:=st6_c3 z3
    have e4:=st6_c4 z3
    have e5:=st6_c5 z3
    have HM4:Hid (Mv B T (tn:Int) l st w W11):=HZ11.1
    clear z3 HZ10 HZ11 hc hb11
    go_wp2_with fail
    refine (show ∀ (a:Act) (w1:World),bodyPost Tryz.prog Tryz.f180 (ImP B T kd tn nu tx l st w) Exit.ret a w1→Kr a w1 from HKR) _ _ (bodyPost_ret (by simp [results,Tryz.results180,go_sem,e0,e1,e2,e3,e4,e5];rfl) rfl ?_)
    obtain ⟨y1,y2,y3⟩:=(show kd=3∧nu=0∧tx=X from HYY)
    subst y1 y2 y3
    exact ⟨rfl,st6_mv HM4 (Nat.le_refl _) hnB _ _ _ _ _ _⟩
def NumP (w:World) (kd:Int) (p tn:Nat) (nu:Int) (tx:ByteArray) (e:Ending) (w':World):Prop :=
  Below w.heap.size w w'∧(kd ≠ 0→e = .returned (.tuple #[tokV kd p tn 0 nu tx,.int .i64 (-1)]))∧(kd=0→∃ a b c d n t,e = .returned (.tuple #[tokV a b c d n t,.int .i64 (tn:Int)]))
def CutN (T:ByteArray) (w:World) (kd:Int) (p tn:Nat) (nu:Int) (tx:ByteArray) (n:Int) (wc:World):Prop :=
  ∃ kE:Int,Ts w kE p tn 0 ⟨#[]⟩ wc∧(kE=3∧kd=3∧nu=0∧tx=T.extract p tn∨kE=2∧kd=2∧nu=n∧tx=⟨#[]⟩∧0≤n∧n < 9223372036854775808)
def BigN (L:List UInt8) (w W4:World) (p tn i:Nat) (n:Int) (wr:World):Prop :=
  (wr=W4∧∃ acc:Nat,n=(acc:Int)∧nm acc (dg L i tn)=none∧(acc:Int) < 9223372036854775808)∨Ts w 3 p tn 0 ⟨#[]⟩ wr
theorem spec_num (T : ByteArray) (L : List UInt8) (hT : T.data.toList = L) (hlen : L.length ≤ 65536) (p : Nat) (hd : isD (lk L p) = true) (hx0 : ¬ (lk L p = 48 ∧ lk L (p + 1) = 120)) {kd : Int} {tn : Nat} {nu : Int} {tx : ByteArray} (hn : Num T L p kd tn nu tx) (w : World) :
    Calls Tryz.prog 144 #[.string T,tokV 0 p 0 0 0 ⟨#[]⟩] w (NumP w kd p tn nu tx):=by
  have hp:p < L.length:=isD_lt hd
  have hs:T.size=L.length:=by rw [← hT];simp
  obtain ⟨M,hM,hLM⟩:∃ M:Int,M≤65536∧(L.length:Int)≤M:=⟨L.length,by omega,Int.le_refl _⟩
  have hpM:(p:Int)+1≤M:=by omega
  have HL:LkAll T L:=fun j=>spec_look T L hT j
  have HX:IxAll T L:=fun j c hj=>ix T L hT j c hj
  have HDH:Hid (∀ (c:UInt8) (w:World),Calls Tryz.prog 129 #[.int .u8 (c.toNat:Int)] w fun e w'=>e = .returned (.bool (isD c))∧w'=w):=spec_isD
  have HN:Hid (Num T L p kd tn nu tx):=hn
  obtain ⟨a,ha⟩:∃ a,q1 L p=a:=⟨_,rfl⟩
  obtain ⟨b,hb⟩:∃ b,q2 L a=b:=⟨_,rfl⟩
  have haL:=q1_le (L:=L) hp
  rw [ha] at haL
  have hbL:=q2_le (L:=L) haL.2
  rw [hb] at hbL
  have hix0:=HX p _ (lk_at hp)
  have hl1:∀ W,Calls Tryz.prog 158 #[.string T,.int .i64 ((p:Int)+1)] W fun e w'=>e = .returned (.int .u8 ((lk L (p+1)).toNat:Int))∧w'=W:=fun W=>by
    have:=HL (p+1) W
    rw [show ((p+1:Nat):Int)=(p:Int)+1 by omega] at this
    exact this
  have hst:=Ts.start w 2 p 0 0 ⟨#[]⟩
  obtain ⟨W,hWe,hts⟩:∃ W,W=(w.alloc (.cells #[.int .i64 2,.int .i64 p,.int .i64 0,.int .i64 0,.int .i64 0,.string ⟨#[]⟩] 179)).alloc (.cells #[.int .i64 0,.int .i64 0,.int .i64 0,.int .i64 0,.int .i64 0,.string ⟨#[]⟩] 179)∧Ts w 2 p 0 0 ⟨#[]⟩ W:=⟨_,rfl,hst⟩
  have HTS:Hid (Ts w 2 p 0 0 ⟨#[]⟩ W):=hts
  have c1:=hts.c1
  have HA:Hid (q1 L p=a∧q2 L a=b):=(⟨ha,hb⟩:_∧_)
  have HP0:Hid (isD (lk L p)=true∧¬ (lk L p=48∧lk L (p+1)=120)):=(⟨hd,hx0⟩:_∧_)
  have HXH:Hid (IxAll T L):=HX
  have HLH:Hid (LkAll T L):=HL
  clear hT hlen hn ha hb hst hts hd hx0 HX HL
  show Calls Tryz.prog 144 #[.string T,.agg #[.int .i64 0,.int .i64 p,.int .i64 0,.int .i64 0,.int .i64 0,.string ⟨#[]⟩]] w _
  go_enter Tryz.func144,Tryz.ntmps144
  go_upto_region 3 with fail
  rw [← hWe]
  clear hWe
  go_cut [22] from 9 (fun s22 wc=>s22 = .bool false∧wc=W)
  case first =>
    have hP0:=(show isD (lk L p)=true∧¬ (lk L p=48∧lk L (p+1)=120) from HP0)
    by_cases h48:lk L p=48
    · have hne:lk L (p+1) ≠ 120:=fun g=>hP0.2 ⟨h48,g⟩
      have hneI:(((lk L (p+1)).toNat:Int) == 120)=false:=by
        simp;intro g;exact hne (UInt8.toNat_inj.1 (show (lk L (p+1)).toNat=120 by omega))
      rw [h48] at hix0
      clear hP0 hne h48
      generalize ((lk L (p+1)).toNat:Int)=x1 at *
      go_wp2_with fail
      refine (hl1 _).mono ?_
      rintro e w1 ⟨rfl,rfl⟩
      go_wp2_with fail
      go_meet
      case rel=>exact ⟨rfl,rfl⟩
    · have hneI : (((lk L p).toNat : Int) == 48) = false := by
        simp;intro g;exact h48 (UInt8.toNat_inj.1 (show (lk L p).toNat=48 by omega))
      clear hP0 h48 hl1
      generalize ((lk L p).toNat:Int)=x0 at *
      go_wp2_with fail
      go_meet
      case rel=>exact ⟨rfl,rfl⟩
  case rest =>
  obtain ⟨rfl,hwc⟩:=hcut
  rw [hwc]
  clear hwc
  go_upto_if 34 with fail
  go_cut [6] from 9 (fun s6 wc=>s6 = .int .i64 (a:Int)∧wc=W)
  case first =>
    obtain ⟨hqa,hqb⟩:=(show q1 L p=a∧q2 L a=b from HA)
    unfold q1 at hqa
    by_cases h48:lk L p=48
    · rw [if_pos h48] at hqa
      rw [h48]
      clear hqb
      go_wp2_with fail
      go_meet
      case rel=>exact ⟨by rw [← hqa];rfl,rfl⟩
    · rw [if_neg h48] at hqa
      have hneI:(((lk L p).toNat:Int) == 48)=false:=by
        simp;intro g;exact h48 (UInt8.toNat_inj.1 (show (lk L p).toNat=48 by omega))
      have hnb:(((lk L p).toNat:Int) != 48)=true:=by rw [bne,hneI];rfl
      have HQ:Hid (en isD L (p+1)=a):=hqa
      clear hneI
      clear hqa hqb h48 hl1
      generalize ((lk L p).toNat:Int)=x0 at *
      rw [hnb]
      go_wp2_with fail
      clear hix0 c1
      go_loop [6] (fun sv=>∃ j:Nat,sv = .int .i64 j∧p+1≤j∧j≤L.length∧Hid (en isD L (p+1)=en isD L j)) (fun sv=>L.length - (intOf sv).toNat)
      case atStart=>exact ⟨p+1,by go_num,Nat.le_refl _,by omega,(rfl:en isD L (p+1)=en isD L (p+1))⟩
      case round =>
        obtain ⟨j,rfl,hkj,hj,HE⟩:=hrel
        have hE:=(show en isD L (p+1)=en isD L j from HE)
        clear HE
        have hl:=(show LkAll T L from HLH) j
        have hdig:=(show ∀ (c:UInt8) (w:World),_ from HDH) (lk L j)
        have hjM:(j:Int)≤M:=by omega
        cases hgo:isD (lk L j) with
        | true =>
          rw [hgo] at hdig
          obtain ⟨h1,hjn⟩:=en_at isD_zero hgo
          have HN1:Hid (en isD L (p+1)=en isD L (j+1)):=(hE.trans h1:en isD L (p+1)=en isD L (j+1))
          clear hE hgo h1
          generalize ((lk L j).toNat:Int)=xj at hl hdig
          go_wp2_with fail
          refine (hl _).mono ?_
          rintro e w1 ⟨rfl,rfl⟩
          clear hl
          go_wp2_with fail
          refine (hdig _).mono ?_
          rintro e w1 ⟨rfl,rfl⟩
          clear hdig
          go_wp2_with fail
          go_round
          case rel=>exact ⟨j+1,by go_num,by omega,by omega,HN1⟩
          case measure=>simp [intOf];omega
        | false =>
          rw [hgo] at hdig
          have HF:Hid (en isD L (p+1)=j):=(hE.trans (en_no hgo):en isD L (p+1)=j)
          clear hE hgo
          generalize ((lk L j).toNat:Int)=xj at hl hdig
          go_wp2_with fail
          refine (hl _).mono ?_
          rintro e w1 ⟨rfl,rfl⟩
          clear hl
          go_wp2_with fail
          refine (hdig _).mono ?_
          rintro e w1 ⟨rfl,rfl⟩
          clear hdig
          go_wp2_with fail
          go_meet
          case rel =>
            exact ⟨by rw [← (show en isD L (p+1)=j from HF),(show en isD L (p+1)=a from HQ)],rfl⟩
  case rest =>
  obtain ⟨rfl,hwc⟩:=hcut
  rw [hwc]
  clear hwc hix0 hl1
  obtain ⟨hap,haL⟩:=haL
  obtain ⟨hab,hbL⟩:=hbL
  have haM:(a:Int)+1≤M+1:=by omega
  have hla:=(show LkAll T L from HLH) a
  have hla1:∀ W,Calls Tryz.prog 158 #[.string T,.int .i64 ((a:Int)+1)] W fun e w'=>e = .returned (.int .u8 ((lk L (a+1)).toNat:Int))∧w'=W:=fun W=>by
    have:=(show LkAll T L from HLH) (a+1) W
    rw [show ((a+1:Nat):Int)=(a:Int)+1 by omega] at this
    exact this
  go_upto_region 9 with fail
  go_cut [51] from 9 (fun s51 wc=>s51 = .bool (frc L a)∧wc=W)
  case first =>
    by_cases h46:lk L a=46
    · have ez:frc L a=isD (lk L (a+1)):=by unfold frc;rw [h46];simp
      have HEZ:Hid (frc L a=isD (lk L (a+1))):=ez
      have hdig:=(show ∀ (c:UInt8) (w:World),_ from HDH) (lk L (a+1))
      rw [h46] at hla
      generalize isD (lk L (a+1))=zz at hdig HEZ
      clear ez h46
      generalize ((lk L (a+1)).toNat:Int)=x1 at *
      go_wp2_with fail
      refine (hla _).mono ?_
      rintro e w1 ⟨rfl,rfl⟩
      clear hla
      go_wp2_with fail
      refine (hla1 _).mono ?_
      rintro e w1 ⟨rfl,rfl⟩
      clear hla1
      go_wp2_with fail
      refine (hdig _).mono ?_
      rintro e w1 ⟨rfl,rfl⟩
      clear hdig
      go_wp2_with fail
      go_meet
      case rel=>exact ⟨by rw [show frc L a=zz from HEZ],rfl⟩
    · have hneI : (((lk L a).toNat : Int) == 46) = false := by
        simp;intro g;exact h46 (UInt8.toNat_inj.1 (show (lk L a).toNat=46 by omega))
      have ez:frc L a=false:=by unfold frc;rw [show (lk L a == 46)=false by simpa using h46];rfl
      have HEZ:Hid (frc L a=false):=ez
      clear ez h46 hla1
      generalize ((lk L a).toNat:Int)=x1 at *
      go_wp2_with fail
      refine (hla _).mono ?_
      rintro e w1 ⟨rfl,rfl⟩
      clear hla
      go_wp2_with fail
      go_meet
      case rel=>exact ⟨by rw [show frc L a=false from HEZ],rfl⟩
  case rest =>
  obtain ⟨rfl,hwc⟩:=hcut
  rw [hwc]
  clear hwc hla hla1
  obtain ⟨kB,hkB⟩:∃ kB:Int,kB=if frc L a=true then 3 else 2:=⟨_,rfl⟩
  have HKB:Hid (kB=if frc L a=true then 3 else 2):=hkB
  clear hkB
  go_upto_if 51 with fail
  go_cut [6] from 9 (fun s6 wc=>s6 = .int .i64 (b:Int)∧Ts w kB p 0 0 ⟨#[]⟩ wc)
  case first =>
    obtain ⟨hqa,hqb⟩:=(show q1 L p=a∧q2 L a=b from HA)
    have hkB:=(show kB=if frc L a=true then 3 else 2 from HKB)
    unfold q2 at hqb
    cases hfr:frc L a with
    | true =>
      rw [hfr,if_pos rfl] at hqb hkB
      have f0:=(show Ts w 2 p 0 0 ⟨#[]⟩ W from HTS).fz 0
      have c0:=(show Ts w 2 p 0 0 ⟨#[]⟩ W from HTS).c0
      have HTK:Hid (Ts w kB p 0 0 ⟨#[]⟩ (W.setCell ⟨w.heap.size,0,none⟩ (.int .i64 3))):=by rw [hkB];exact HTS.set0 3
      have HQ:Hid (en isD L (a+1)=b):=hqb
      have haL2:a < L.length:=by
        have hf:=hfr
        unfold frc at hf;simp at hf;exact lk_lt (by decide) hf.1
      clear hqa hqb hkB hfr
      go_wp2_with fail
      clear f0 c0 c1
      go_loop [6] (fun sv=>∃ j:Nat,sv = .int .i64 j∧a+1≤j∧j≤L.length∧Hid (en isD L (a+1)=en isD L j)) (fun sv=>L.length - (intOf sv).toNat)
      case atStart=>exact ⟨a+1,by go_num,Nat.le_refl _,by omega,(rfl:en isD L (a+1)=en isD L (a+1))⟩
      case round =>
        obtain ⟨j,rfl,hkj,hj,HE⟩:=hrel
        have hE:=(show en isD L (a+1)=en isD L j from HE)
        clear HE
        have hl:=(show LkAll T L from HLH) j
        have hdig:=(show ∀ (c:UInt8) (w:World),_ from HDH) (lk L j)
        have hjM:(j:Int)≤M:=by omega
        cases hgo:isD (lk L j) with
        | true =>
          rw [hgo] at hdig
          obtain ⟨h1,hjn⟩:=en_at isD_zero hgo
          have HN1:Hid (en isD L (a+1)=en isD L (j+1)):=(hE.trans h1:en isD L (a+1)=en isD L (j+1))
          clear hE hgo h1
          generalize ((lk L j).toNat:Int)=xj at hl hdig
          go_wp2_with fail
          refine (hl _).mono ?_
          rintro e w1 ⟨rfl,rfl⟩
          clear hl
          go_wp2_with fail
          refine (hdig _).mono ?_
          rintro e w1 ⟨rfl,rfl⟩
          clear hdig
          go_wp2_with fail
          go_round
          case rel=>exact ⟨j+1,by go_num,by omega,by omega,HN1⟩
          case measure=>simp [intOf];omega
        | false =>
          rw [hgo] at hdig
          have HF:Hid (en isD L (a+1)=j):=(hE.trans (en_no hgo):en isD L (a+1)=j)
          clear hE hgo
          generalize ((lk L j).toNat:Int)=xj at hl hdig
          go_wp2_with fail
          refine (hl _).mono ?_
          rintro e w1 ⟨rfl,rfl⟩
          clear hl
          go_wp2_with fail
          refine (hdig _).mono ?_
          rintro e w1 ⟨rfl,rfl⟩
          clear hdig
          go_wp2_with fail
          go_meet
          case rel =>
            exact ⟨by rw [← (show en isD L (a+1)=j from HF),(show en isD L (a+1)=b from HQ)],HTK⟩
    | false =>
      rw [hfr,if_neg (by decide)] at hqb hkB
      have HQ:Hid (a=b∧kB=2):=(⟨hqb,hkB⟩:_∧_)
      clear hfr hqa hqb hkB
      go_wp2_with fail
      go_meet
      case rel=>exact ⟨by rw [HQ.1],by rw [HQ.2];exact HTS⟩
  case rest =>
  obtain ⟨rfl,htb⟩:=hcut
  obtain ⟨W1,hW1⟩:∃ W1,wc=W1:=⟨_,rfl⟩
  rw [hW1] at htb ⊢
  clear hW1
  clear HTS c1
  have HTB:Hid (Ts w kB p 0 0 ⟨#[]⟩ W1):=htb
  have hbM:(b:Int)≤M:=by omega
  have hlb:=(show LkAll T L from HLH) b
  have f0:=htb.fz 0
  have c0:=htb.c0
  clear htb
  go_upto_if 64 with (go_at_call 158;refine (hlb _).mono ?_;rintro e w1 ⟨rfl,hw1⟩;rw [hw1];clear hw1)
  clear hlb
  go_cut [6] from 9 (fun s6 wc=>s6 = .int .i64 (tn:Int)∧∃ kC,Hid (Ts w kC p 0 0 ⟨#[]⟩ wc∧Fin10 T L p tn kC kd nu tx∧p < tn∧tn≤L.length))
  case first =>
    obtain ⟨hqa,hqb⟩:=(show q1 L p=a∧q2 L a=b from HA)
    have hkB:=(show kB=if frc L a=true then 3 else 2 from HKB)
    have hP0:=(show isD (lk L p)=true∧¬ (lk L p=48∧lk L (p+1)=120) from HP0)
    have hN:=(show Num T L p kd tn nu tx from HN)
    have hno:(lk L b=101→False)→(Ts w kB p 0 0 ⟨#[]⟩ W1→∃ kC,Ts w kC p 0 0 ⟨#[]⟩ W1∧Fin10 T L p tn kC kd nu tx∧p < tn∧tn≤L.length∧b=tn):=by
      intro h1 ht
      cases hN with
      | bad _ nb=>cases nb with | bad g1 g2=>rw [hqa,hqb] at g1;exact (h1 g1).elim
      | flt _ nb =>
        have hle:=nb.le hp
        cases nb with
        | frac g1 g2 =>
          rw [hqa] at g1
          rw [g1,if_pos rfl] at hkB
          subst hkB
          exact ⟨3,ht,.flt,hle.1,hle.2,by rw [hqa,hqb]⟩
        | exp g1 g2=>rw [hqa,hqb] at g1;exact (h1 g1).elim
      | int _ v nb hv =>
        have hle:=nb.le hp
        have hdd:=nb.digits hP0.1
        cases nb with
        | plain g1 g2 =>
          rw [hqa] at g1
          rw [g1,if_neg (by decide)] at hkB
          subst hkB
          refine ⟨2,ht,.int v hdd hv,hle.1,hle.2,?_⟩
          rw [hqa,← hqb];unfold q2;rw [g1,if_neg (by decide)]
      | big _ nb hv =>
        have hle:=nb.le hp
        have hdd:=nb.digits hP0.1
        cases nb with
        | plain g1 g2 =>
          rw [hqa] at g1
          rw [g1,if_neg (by decide)] at hkB
          subst hkB
          refine ⟨2,ht,.big hdd hv,hle.1,hle.2,?_⟩
          rw [hqa,← hqb];unfold q2;rw [g1,if_neg (by decide)]
    by_cases h101:lk L b=101
    · have hyes : (kd = 0 ∧ nu = 0 ∧ tn = sgn L (b + 1) ∧ isD (lk L (sgn L (b + 1))) = false) ∨ (tn = en isD L (sgn L (b + 1)) ∧ Fin10 T L p tn 3 kd nu tx ∧ p < tn ∧ tn ≤ L.length ∧ isD (lk L (sgn L (b + 1))) = true) := by
        cases hN with
        | bad _ nb =>
          cases nb with | bad g1 g2=>rw [hqa,hqb] at g2;exact .inl ⟨rfl,rfl,by rw [hqa,hqb],g2⟩
        | flt _ nb =>
          have hle:=nb.le hp
          cases nb with
          | frac g1 g2=>rw [hqa,hqb] at g2;exact (g2 h101).elim
          | exp g1 g2=>rw [hqa,hqb] at g2;exact .inr ⟨by rw [hqa,hqb],.flt,hle.1,hle.2,g2⟩
        | int _ v nb hv =>
          cases nb with
          | plain g1 g2 =>
            rw [hqa] at g1 g2
            have:b=a:=by rw [← hqb];unfold q2;rw [g1,if_neg (by decide)]
            rw [this] at h101;exact (g2 h101).elim
        | big _ nb hv =>
          cases nb with
          | plain g1 g2 =>
            rw [hqa] at g1 g2
            have:b=a:=by rw [← hqb];unfold q2;rw [g1,if_neg (by decide)]
            rw [this] at h101;exact (g2 h101).elim
      have hbl:b < L.length:=lk_lt (by decide) h101
      rw [h101]
      obtain ⟨W2,hW2,HT2⟩:∃ W2,W2=W1.setCell ⟨w.heap.size,0,none⟩ (.int .i64 3)∧Hid (Ts w 3 p 0 0 ⟨#[]⟩ W2):=⟨_,rfl,HTB.set0 3⟩
      obtain ⟨c,hc⟩:∃ c:Nat,(b:Int)+1=(c:Int):=⟨b+1,by omega⟩
      have hcb:c=b+1:=by omega
      rw [← hcb] at hyes
      obtain ⟨s,hse⟩:∃ s,sgn L c=s:=⟨_,rfl⟩
      have hsl:=sgn_le (L:=L) (k:=c) (by omega)
      rw [hse] at hyes hsl
      have HY:Hid ((kd=0∧nu=0∧tn=s∧isD (lk L s)=false)∨(tn=en isD L s∧Fin10 T L p tn 3 kd nu tx∧p < tn∧tn≤L.length∧isD (lk L s)=true)):=hyes
      have HSE:Hid (sgn L c=s):=hse
      have hcM:(c:Int)≤M:=by omega
      obtain ⟨hcs,hsL⟩:=hsl
      clear hno hN hP0 hkB hqa hqb hyes hse h101
      have hcI:Hid (c=b+1):=hcb
      clear hcb
      go_upto_region 17 with fail
      rw [← hW2]
      clear hW2 hc f0 c0
      have hlc:=(show LkAll T L from HLH) c
      go_cut [77] from 9 (fun s77 wc=>s77 = .bool (decide (lk L c=45∨lk L c=43))∧wc=W2)
      case first =>
        by_cases h45:lk L c=45
        · rw [h45] at hlc
          have HZ:Hid (decide (lk L c=45∨lk L c=43)=true):=(decide_eq_true (.inl h45):decide (lk L c=45∨lk L c=43)=true)
          clear h45
          go_wp2_with fail
          refine (hlc _).mono ?_
          rintro e w1 ⟨rfl,rfl⟩
          clear hlc
          go_wp2_with fail
          go_meet
          case rel=>exact ⟨by rw [show decide (lk L c=45∨lk L c=43)=true from HZ],rfl⟩
        · have hneI : (((lk L c).toNat : Int) == 45) = false := by
            simp;intro g;exact h45 (UInt8.toNat_inj.1 (show (lk L c).toNat=45 by omega))
          by_cases h43:lk L c=43
          · have HZ:Hid (decide (lk L c=45∨lk L c=43)=true):=(decide_eq_true (.inr h43):decide (lk L c=45∨lk L c=43)=true)
            have hyI:(((lk L c).toNat:Int) == 43)=true:=by rw [h43];rfl
            clear h45 h43
            generalize ((lk L c).toNat:Int)=xc at *
            go_wp2_with fail
            refine (hlc _).mono ?_
            rintro e w1 ⟨rfl,rfl⟩
            go_wp2_with fail
            refine (hlc _).mono ?_
            rintro e w1 ⟨rfl,rfl⟩
            clear hlc
            go_wp2_with fail
            go_meet
            case rel=>exact ⟨by rw [show decide (lk L c=45∨lk L c=43)=true from HZ],rfl⟩
          · have HZ:Hid (decide (lk L c=45∨lk L c=43)=false):=(decide_eq_false (fun g=>g.elim h45 h43):decide (lk L c=45∨lk L c=43)=false)
            have hyI:(((lk L c).toNat:Int) == 43)=false:=by
              simp;intro g;exact h43 (UInt8.toNat_inj.1 (show (lk L c).toNat=43 by omega))
            clear h45 h43
            generalize ((lk L c).toNat:Int)=xc at *
            go_wp2_with fail
            refine (hlc _).mono ?_
            rintro e w1 ⟨rfl,rfl⟩
            go_wp2_with fail
            refine (hlc _).mono ?_
            rintro e w1 ⟨rfl,rfl⟩
            clear hlc
            go_wp2_with fail
            go_meet
            case rel=>exact ⟨by rw [show decide (lk L c=45∨lk L c=43)=false from HZ],rfl⟩
      case rest =>
      obtain ⟨rfl,hwc⟩:=hcut
      rw [hwc]
      clear hwc hlc
      go_upto_if 77 with fail
      go_cut [6] from 9 (fun s6 wc=>s6 = .int .i64 (s:Int)∧wc=W2)
      case first =>
        have hse:=(show sgn L c=s from HSE)
        unfold sgn at hse
        by_cases h45:lk L c=45∨lk L c=43
        · rw [decide_eq_true h45]
          rw [if_pos h45] at hse
          have HQ:Hid (c+1=s):=hse
          clear hse h45
          go_wp2_with fail
          go_meet
          case rel=>exact ⟨by rw [← (show c+1=s from HQ)];rfl,rfl⟩
        · rw [decide_eq_false h45]
          rw [if_neg h45] at hse
          have HQ:Hid (c=s):=hse
          clear hse h45
          go_wp2_with fail
          go_meet
          case rel=>exact ⟨by rw [(show c=s from HQ)],rfl⟩
      case rest =>
      obtain ⟨rfl,hwc⟩:=hcut
      rw [hwc]
      clear hwc
      have hsM:(s:Int)≤M:=by omega
      have hls:=(show LkAll T L from HLH) s
      have hdig:=(show ∀ (c:UInt8) (w:World),_ from HDH) (lk L s)
      go_wp2_with fail
      refine (hls _).mono ?_
      rintro e w1 ⟨rfl,hw1⟩
      rw [hw1]
      clear hw1
      clear hls
      go_wp2_with fail
      refine (hdig _).mono ?_
      rintro e w1 ⟨rfl,hw1⟩
      rw [hw1]
      clear hw1
      clear hdig
      rcases (show (kd=0∧nu=0∧tn=s∧isD (lk L s)=false)∨(tn=en isD L s∧Fin10 T L p tn 3 kd nu tx∧p < tn∧tn≤L.length∧isD (lk L s)=true) from HY) with ⟨y1,y2,y3,y4⟩ | ⟨y1,y2,y3,y5,y4⟩
      · rw [y4]
        have h2:=(show Ts w 3 p 0 0 ⟨#[]⟩ W2 from HT2)
        have hc0:=h2.c0
        have hc1:=h2.c1
        have hc2:=h2.c2
        have hc3:=h2.c3
        have hc4:=h2.c4
        have hc5:=h2.c5
        have z3:=h2.rz
        have g0:=z3.c0
        have g1:=z3.c1
        have g2:=z3.c2
        have g3:=z3.c3
        have g4:=z3.c4
        have g5:=z3.c5
        have v0:=z3.f0
        have v1:=z3.f1
        have v2:=z3.f2
        have v3:=z3.f3
        have v4:=z3.f4
        have v5:=z3.f5
        have e0:=st6_c0 z3
        have e1:=st6_c1 z3
        have e2:=st6_c2 z3
        have e3:=st6_c3 z3
        have e4:=st6_c4 z3
        have e5:=st6_c5 z3
        have HBL:Hid (Below w.heap.size w W2):=h2.bel
        have HYY:Hid (kd=0∧tn=s):=(⟨y1,y3⟩:_∧_)
        clear h2 z3 y1 y2 y3 y4
        go_upto_region 20 with fail
        rename_i Kr hKr
        have HKR:Hid (∀ (a:Act) (w1:World),bodyPost Tryz.prog Tryz.f144 (NumP w kd p tn nu tx) Exit.ret a w1→Kr a w1):=(fun a w1 h=>hKr a w1 (wp_ret h):∀ (a:Act) (w1:World),bodyPost Tryz.prog Tryz.f144 (NumP w kd p tn nu tx) Exit.ret a w1→Kr a w1)
        go_light
        go_wp2_with fail
        refine (show ∀ (a:Act) (w1:World),bodyPost Tryz.prog Tryz.f144 (NumP w kd p tn nu tx) Exit.ret a w1→Kr a w1 from HKR) _ _ (bodyPost_ret (by simp [results,Tryz.results144,go_sem,e0,e1,e2,e3,e4,e5];rfl) rfl ?_)
        refine ⟨st6_bel HBL (Nat.le_succ _) _ _ _ _ _ _,fun g=>(g HYY.1).elim,fun _=>⟨_,_,_,_,_,_,by rw [HYY.2];rfl⟩⟩
      · rw [y4]
        have HFN:Hid (Fin10 T L p tn 3 kd nu tx∧p < tn∧tn≤L.length∧tn=en isD L s):=(⟨y2,y3,y5,y1⟩:_∧_∧_∧_)
        clear y1 y2 y3 y4 y5
        go_wp2_with fail
        clear hcM
        go_loop [6] (fun sv=>∃ j:Nat,sv = .int .i64 j∧s≤j∧j≤L.length∧Hid (en isD L (s)=en isD L j)) (fun sv=>L.length - (intOf sv).toNat)
        case atStart=>exact ⟨s,by go_num,Nat.le_refl _,by omega,(rfl:en isD L (s)=en isD L (s))⟩
        case round =>
          obtain ⟨j,rfl,hkj,hj,HE⟩:=hrel
          have hE:=(show en isD L (s)=en isD L j from HE)
          clear HE
          have hl:=(show LkAll T L from HLH) j
          have hdig:=(show ∀ (c:UInt8) (w:World),_ from HDH) (lk L j)
          have hjM:(j:Int)≤M:=by omega
          cases hgo:isD (lk L j) with
          | true =>
            rw [hgo] at hdig
            obtain ⟨h1,hjn⟩:=en_at isD_zero hgo
            have HN1:Hid (en isD L (s)=en isD L (j+1)):=(hE.trans h1:en isD L (s)=en isD L (j+1))
            clear hE hgo h1
            generalize ((lk L j).toNat:Int)=xj at hl hdig
            go_wp2_with fail
            refine (hl _).mono ?_
            rintro e w1 ⟨rfl,rfl⟩
            clear hl
            go_wp2_with fail
            refine (hdig _).mono ?_
            rintro e w1 ⟨rfl,rfl⟩
            clear hdig
            go_wp2_with fail
            go_round
            case rel=>exact ⟨j+1,by go_num,by omega,by omega,HN1⟩
            case measure=>simp [intOf];omega
          | false =>
            rw [hgo] at hdig
            have HF:Hid (en isD L (s)=j):=(hE.trans (en_no hgo):en isD L (s)=j)
            clear hE hgo
            generalize ((lk L j).toNat:Int)=xj at hl hdig
            go_wp2_with fail
            refine (hl _).mono ?_
            rintro e w1 ⟨rfl,rfl⟩
            clear hl
            go_wp2_with fail
            refine (hdig _).mono ?_
            rintro e w1 ⟨rfl,rfl⟩
            clear hdig
            go_wp2_with fail
            go_meet
            case rel =>
              exact ⟨by rw [← (show en isD L s=j from HF),← HFN.2.2.2],3,(⟨HT2,HFN.1,HFN.2.1,HFN.2.2.1⟩:_∧_∧_∧_)⟩
    · have hneI : (((lk L b).toNat : Int) == 101) = false := by
        simp;intro g;exact h101 (UInt8.toNat_inj.1 (show (lk L b).toNat=101 by omega))
      obtain ⟨kC,k1,k2,k3,k4,k5⟩:=hno h101 HTB
      have HK:Hid ((Ts w kC p 0 0 ⟨#[]⟩ W1∧Fin10 T L p tn kC kd nu tx∧p < tn∧tn≤L.length)∧b=tn):=(⟨⟨k1,k2,k3,k4⟩,k5⟩:_∧_)
      rw [hneI]
      clear hno hN hP0 hkB hqa hqb hneI h101 k1 k2 k3 k4 k5
      go_wp2_with fail
      go_meet
      case rel=>exact ⟨by rw [HK.2],kC,HK.1⟩
  case rest =>
  obtain ⟨rfl,kC,HF3⟩:=hcut
  obtain ⟨W3,hW3⟩:∃ W3,wc=W3:=⟨_,rfl⟩
  rw [hW3] at HF3 ⊢
  clear hW3
  obtain ⟨h3,hfin,hpto,htoL⟩:=(show Ts w kC p 0 0 ⟨#[]⟩ W3∧Fin10 T L p tn kC kd nu tx∧p < tn∧tn≤L.length from HF3)
  have htoM:(tn:Int)≤M:=by omega
  have c1:=h3.c1
  have c2:=h3.c2
  have f2:=h3.fz 2
  have d1:=(h3.set2 (tn:Int)).c1
  obtain ⟨W4,hW4,HT4⟩:∃ W4,W4=W3.setCell ⟨w.heap.size,2,none⟩ (.int .i64 (tn:Int))∧Hid (Ts w kC p tn 0 ⟨#[]⟩ W4):=⟨_,rfl,h3.set2 tn⟩
  have HFIN:Hid (Fin10 T L p tn kC kd nu tx):=hfin
  clear h3 hfin HF3 HA HP0 HKB HTB HN f0 c0 haM hbM hap haL hab hbL HLH HDH
  go_upto_block 6 with fail
  rw [← hW4]
  clear hW4 c1 c2 f2 d1
  have hsl:∀ W:World,(Instr.slice 9 (.string T) (some (.int .i64 (p:Int))) (some (.int .i64 (tn:Int))) none).run Tryz.prog W = .ok (.string (T.extract p tn)) W:=by
    intro W
    rw [run_slice_string (P:=Tryz.prog) W 9 T .i64 .i64 (p:Int) (tn:Int) Tryz.underlying9 (by omega) (by omega) (by omega)]
    simp
  go_cut [7,8] from 9 (fun s7 s8 wc=>∃ n:Int,s7 = .int .u64 n∧CutN T w kd p tn nu tx n wc)
  case first =>
    cases (show Fin10 T L p tn kC kd nu tx from HFIN) with
    | flt =>
      clear HFIN HXH
      have h4:=(show Ts w 3 p tn 0 ⟨#[]⟩ W4 from HT4)
      have c0:=h4.c0
      have hptoI:(p:Int) < (tn:Int):=by omega
      clear h4 hpto
      go_wp2_with fail
      refine wp_loop_rounds 1 ?_
      rw [rounds_succ]
      go_wp2_with fail
      go_meet
      case rel=>exact ⟨0,rfl,⟨3,HT4,.inl ⟨rfl,rfl,rfl,rfl⟩⟩⟩
    | int v hdd hv =>
      have HDD:Hid (∀ i,p≤i→i < tn→isD (lk L i)=true):=hdd
      have HV:Hid (nm 0 (dg L p tn)=some v):=hv
      have h4:=(show Ts w 2 p tn 0 ⟨#[]⟩ W4 from HT4)
      have c0:=h4.c0
      clear hdd hv h4 HFIN hsl
      go_wp2_with fail
      go_loop [7,8] (fun s7 s8=>∃ (i acc:Nat),s7 = .int .u64 (acc:Int)∧s8 = .int .i64 (i:Int)∧p≤i∧i≤tn∧Hid (nm acc (dg L i tn)=some v)∧(acc:Int) < 9223372036854775808) (fun _ s8=>tn - (intOf s8).toNat)
      case atStart=>exact ⟨p,0,rfl,rfl,Nat.le_refl _,by omega,HV,by decide⟩
      case round =>
        obtain ⟨i,acc,rfl,rfl,hpi,hito,HE,hacc⟩:=hrel
        have hiM:(i:Int)≤M:=by omega
        rcases Nat.lt_or_ge i tn with hlt | hge
        · have hltI:decide ((i:Int) < (tn:Int))=true:=by simp;omega
          have hx:=lk_at (show i < L.length by omega)
          have hE:=(show nm acc (dg L i tn)=some v from HE)
          rw [dg_step hx hlt,nm] at hE
          split at hE
          · cases hE
          · rename_i hcond
            have hdi:=digit_nat ((show ∀ i,p≤i→i < tn→isD (lk L i)=true from HDD) i hpi hlt)
            have HN1:Hid (nm (acc*10+((lk L i).toNat - 48)) (dg L (i+1) tn)=some v):=hE
            have hix:=(show IxAll T L from HXH) i _ hx
            have hx1:(48:Int)≤((lk L i).toNat:Int):=by omega
            have hx2:((lk L i).toNat:Int)≤57:=by omega
            have hcast:((acc*10+((lk L i).toNat - 48):Nat):Int)=(acc:Int)*10+(((lk L i).toNat:Int) - 48):=by omega
            have HCAST:Hid (((acc*10+((lk L i).toNat - 48):Nat):Int)=(acc:Int)*10+(((lk L i).toNat:Int) - 48)):=hcast
            have hacc2:((acc*10+((lk L i).toNat - 48):Nat):Int) < 9223372036854775808:=by omega
            have HACC:Hid (((acc*10+((lk L i).toNat - 48):Nat):Int) < 9223372036854775808):=hacc2
            have ha0:(0:Int)≤(acc:Int):=by omega
            by_cases heq:(acc:Int)=922337203685477580
            · have h55:¬ (55:Int) < ((lk L i).toNat:Int):=by omega
              have h1:¬ (922337203685477580:Int) < (acc:Int):=by omega
              have h2:((acc:Int) == 922337203685477580)=true:=by simpa using heq
              clear hE hx hcond hdi hcast hacc2 HV HDD HXH HE
              generalize hxi:((lk L i).toNat:Int)=xi at *
              generalize hai:(acc:Int)=ai at *
              go_wp2_with fail
              go_round
              case rel=>exact ⟨i+1,acc*10+((lk L i).toNat - 48),by rw [show ((acc*10+((lk L i).toNat - 48):Nat):Int)=ai*10+(xi - 48) from HCAST] <;> go_num,by go_num,by omega,by omega,HN1,HACC⟩
              case measure=>simp [intOf];omega
            · have h1:¬ (922337203685477580:Int) < (acc:Int):=by omega
              have h3:(acc:Int) < 922337203685477580:=by omega
              have h2:((acc:Int) == 922337203685477580)=false:=by simpa using heq
              clear hE hx hcond hdi hcast hacc2 HV HDD HXH heq HE
              generalize hxi:((lk L i).toNat:Int)=xi at *
              generalize hai:(acc:Int)=ai at *
              go_wp2_with fail
              go_round
              case rel=>exact ⟨i+1,acc*10+((lk L i).toNat - 48),by rw [show ((acc*10+((lk L i).toNat - 48):Nat):Int)=ai*10+(xi - 48) from HCAST] <;> go_num,by go_num,by omega,by omega,HN1,HACC⟩
              case measure=>simp [intOf];omega
        · obtain rfl:i=tn:=by omega
          have hE:=(show nm acc (dg L i i)=some v from HE)
          rw [dg_end,nm] at hE
          obtain rfl:acc=v:=Option.some.inj hE
          have hltI:decide ((i:Int) < (i:Int))=false:=by simp
          have ha0:(0:Int)≤(acc:Int):=by omega
          have HQ:Hid (0≤(acc:Int)∧(acc:Int) < 9223372036854775808):=(⟨ha0,hacc⟩:_∧_)
          clear hE HE HV HDD HXH
          go_wp2_with fail
          go_meet
          case rel=>exact ⟨acc,rfl,⟨2,HT4,.inr ⟨rfl,rfl,rfl,rfl,HQ.1,HQ.2⟩⟩⟩
    | big hdd hv =>
      have HDD:Hid (∀ i,p≤i→i < tn→isD (lk L i)=true):=hdd
      have HV:Hid (nm 0 (dg L p tn)=none):=hv
      clear hdd hv HFIN hsl
      go_wp2_with fail
      go_loopw [7,8] (fun s7 s8 wr=>∃ (i:Nat) (n:Int),s7 = .int .u64 n∧s8 = .int .i64 (i:Int)∧p≤i∧i≤tn∧BigN L w W4 p tn i n wr) (fun _ s8 _=>tn - (intOf s8).toNat)
      case atStart=>exact ⟨p,0,rfl,rfl,Nat.le_refl _,by omega,Or.inl ⟨rfl,0,rfl,HV,by decide⟩⟩
      case round =>
        obtain ⟨i,n,rfl,rfl,hpi,hito,HE⟩:=hrel
        have hiM:(i:Int)≤M:=by omega
        rcases (show (wr=W4∧∃ acc:Nat,n=(acc:Int)∧nm acc (dg L i tn)=none∧(acc:Int) < 9223372036854775808)∨Ts w 3 p tn 0 ⟨#[]⟩ wr from HE) with ⟨hwr,acc,rfl,hE,hacc⟩ | h3
        · rw [hwr]
          have h4:=(show Ts w 2 p tn 0 ⟨#[]⟩ W4 from HT4)
          have c0:=h4.c0
          clear HE h4
          rcases Nat.lt_or_ge i tn with hlt | hge
          · have hltI:decide ((i:Int) < (tn:Int))=true:=by simp;omega
            have hx:=lk_at (show i < L.length by omega)
            rw [dg_step hx hlt,nm] at hE
            have hdi:=digit_nat ((show ∀ i,p≤i→i < tn→isD (lk L i)=true from HDD) i hpi hlt)
            split at hE
            · rename_i hcond
              have hix:=(show IxAll T L from HXH) i _ hx
              have hx1:(48:Int)≤((lk L i).toNat:Int):=by omega
              have hx2:((lk L i).toNat:Int)≤57:=by omega
              have ha0:(0:Int)≤(acc:Int):=by omega
              have f0:=(show Ts w 2 p tn 0 ⟨#[]⟩ W4 from HT4).fz 0
              have HT5:Hid (Ts w 3 p tn 0 ⟨#[]⟩ (W4.setCell ⟨w.heap.size,0,none⟩ (.int .i64 3))):=(show Ts w 2 p tn 0 ⟨#[]⟩ W4 from HT4).set0 3
              by_cases heq:(acc:Int)=922337203685477580
              · have h55:(55:Int) < ((lk L i).toNat:Int):=by omega
                have h1:¬ (922337203685477580:Int) < (acc:Int):=by omega
                have h2:((acc:Int) == 922337203685477580)=true:=by simpa using heq
                clear hE hx hcond hdi HV HDD HXH hwr
                generalize hxi:((lk L i).toNat:Int)=xi at *
                generalize hai:(acc:Int)=ai at *
                go_wp2_with fail
                go_roundw
                case rel=>exact ⟨i+1,_,rfl,by go_num,by omega,by omega,Or.inr HT5⟩
                case measure=>simp [intOf];omega
              · have h1:(922337203685477580:Int) < (acc:Int):=by omega
                clear hE hx hcond hdi HV HDD HXH hwr heq
                generalize hxi:((lk L i).toNat:Int)=xi at *
                generalize hai:(acc:Int)=ai at *
                go_wp2_with fail
                go_roundw
                case rel=>exact ⟨i+1,_,rfl,by go_num,by omega,by omega,Or.inr HT5⟩
                case measure=>simp [intOf];omega
            · rename_i hcond
              have HN1:Hid (nm (acc*10+((lk L i).toNat - 48)) (dg L (i+1) tn)=none):=hE
              have hix:=(show IxAll T L from HXH) i _ hx
              have hx1:(48:Int)≤((lk L i).toNat:Int):=by omega
              have hx2:((lk L i).toNat:Int)≤57:=by omega
              have hcast:((acc*10+((lk L i).toNat - 48):Nat):Int)=(acc:Int)*10+(((lk L i).toNat:Int) - 48):=by omega
              have HCAST:Hid (((acc*10+((lk L i).toNat - 48):Nat):Int)=(acc:Int)*10+(((lk L i).toNat:Int) - 48)):=hcast
              have hacc2:((acc*10+((lk L i).toNat - 48):Nat):Int) < 9223372036854775808:=by omega
              have HACC:Hid (((acc*10+((lk L i).toNat - 48):Nat):Int) < 9223372036854775808):=hacc2
              have ha0:(0:Int)≤(acc:Int):=by omega
              by_cases heq:(acc:Int)=922337203685477580
              · have h55:¬ (55:Int) < ((lk L i).toNat:Int):=by omega
                have h1:¬ (922337203685477580:Int) < (acc:Int):=by omega
                have h2:((acc:Int) == 922337203685477580)=true:=by simpa using heq
                clear hE hx hcond hdi hcast hacc2 HV HDD HXH hwr
                generalize hxi:((lk L i).toNat:Int)=xi at *
                generalize hai:(acc:Int)=ai at *
                go_wp2_with fail
                go_roundw
                case rel=>exact ⟨i+1,((acc*10+((lk L i).toNat - 48):Nat):Int),by rw [show ((acc*10+((lk L i).toNat - 48):Nat):Int)=ai*10+(xi - 48) from HCAST] <;> go_num,by go_num,by omega,by omega,Or.inl ⟨rfl,_,rfl,HN1,HACC⟩⟩
                case measure=>simp [intOf];omega
              · have h1:¬ (922337203685477580:Int) < (acc:Int):=by omega
                have h3:(acc:Int) < 922337203685477580:=by omega
                have h2:((acc:Int) == 922337203685477580)=false:=by simpa using heq
                clear hE hx hcond hdi hcast hacc2 HV HDD HXH heq hwr
                generalize hxi:((lk L i).toNat:Int)=xi at *
                generalize hai:(acc:Int)=ai at *
                go_wp2_with fail
                go_roundw
                case rel=>exact ⟨i+1,((acc*10+((lk L i).toNat - 48):Nat):Int),by rw [show ((acc*10+((lk L i).toNat - 48):Nat):Int)=ai*10+(xi - 48) from HCAST] <;> go_num,by go_num,by omega,by omega,Or.inl ⟨rfl,_,rfl,HN1,HACC⟩⟩
                case measure=>simp [intOf];omega
          · obtain rfl:i=tn:=by omega
            rw [dg_end,nm] at hE
            cases hE
        · have c0:=h3.c0
          have HE3:Hid (Ts w 3 p tn 0 ⟨#[]⟩ wr):=h3
          clear h3 HE HV HDD HXH
          rcases Nat.lt_or_ge i tn with hlt | hge
          · have hltI:decide ((i:Int) < (tn:Int))=true:=by simp;omega
            go_wp2_with fail
            go_meet
            case rel=>exact ⟨n,rfl,⟨3,HE3,.inl ⟨rfl,rfl,rfl,rfl⟩⟩⟩
          · have hltI:decide ((i:Int) < (tn:Int))=false:=by simp;omega
            go_wp2_with fail
            go_meet
            case rel=>exact ⟨n,rfl,⟨3,HE3,.inl ⟨rfl,rfl,rfl,rfl⟩⟩⟩
  case rest =>
  obtain ⟨n,rfl,kE,HF5⟩:=hcut
  obtain ⟨W5,hW5⟩:∃ W5,wc=W5:=⟨_,rfl⟩
  rw [hW5] at HF5 ⊢
  clear hW5 HT4 HFIN HXH
  have hpI:(0:Int)≤(p:Int):=by omega
  have hptI:(p:Int)≤(tn:Int):=by omega
  rcases (show Ts w kE p tn 0 ⟨#[]⟩ W5∧(kE=3∧kd=3∧nu=0∧tx=T.extract p tn∨kE=2∧kd=2∧nu=n∧tx=⟨#[]⟩∧0≤n∧n < 9223372036854775808) from HF5) with ⟨h5,⟨rfl,hkd,hnu,htx⟩ | ⟨rfl,hkd,hnu,htx,hn0,hn1⟩⟩
  · have HR:Hid (kd=3∧nu=0∧tx=T.extract p tn):=(⟨hkd,hnu,htx⟩:_∧_∧_)
    clear hkd hnu htx HF5
    have c0:=h5.c0
    have c1:=h5.c1
    have c5:=h5.c5
    have f5:=h5.fz 5
    obtain ⟨W6,hW6,HT6⟩:∃ W6,W6=W5.setCell ⟨w.heap.size,5,none⟩ (.string (T.extract p tn))∧Hid (Ts w 3 p tn 0 (T.extract p tn) W6):=⟨_,rfl,h5.set5 _⟩
    clear h5
    generalize hX:T.extract p tn=X at *
    clear hX
    go_upto_region 34 with fail
    rename_i Kr hKr
    have HKR:Hid (∀ (a:Act) (w1:World),bodyPost Tryz.prog Tryz.f144 (NumP w kd p tn nu tx) Exit.ret a w1→Kr a w1):=(fun a w1 h=>hKr a w1 (wp_ret h):∀ (a:Act) (w1:World),bodyPost Tryz.prog Tryz.f144 (NumP w kd p tn nu tx) Exit.ret a w1→Kr a w1)
    go_light
    rw [← hW6]
    clear hW6 c0 c1 c5 f5 hsl
    have h6:=(show Ts w 3 p tn 0 X W6 from HT6)
    have hc0:=h6.c0
    have hc1:=h6.c1
    have hc2:=h6.c2
    have hc3:=h6.c3
    have hc4:=h6.c4
    have hc5:=h6.c5
    have z3:=h6.rz
    have g0:=z3.c0
    have g1:=z3.c1
    have g2:=z3.c2
    have g3:=z3.c3
    have g4:=z3.c4
    have g5:=z3.c5
    have v0:=z3.f0
    have v1:=z3.f1
    have v2:=z3.f2
    have v3:=z3.f3
    have v4:=z3.f4
    have v5:=z3.f5
    have e0:=st6_c0 z3
    have e1:=st6_c1 z3
    have e2:=st6_c2 z3
    have e3:=st6_c3 z3
    have e4:=st6_c4 z3
    have e5:=st6_c5 z3
    have HBL:Hid (Below w.heap.size w _):=h6.bel
    clear h6 z3
    go_wp2_with fail
    refine (show ∀ (a:Act) (w1:World),bodyPost Tryz.prog Tryz.f144 (NumP w kd p tn nu tx) Exit.ret a w1→Kr a w1 from HKR) _ _ (bodyPost_ret (by simp [results,Tryz.results144,go_sem,e0,e1,e2,e3,e4,e5];rfl) rfl ?_)
    obtain ⟨g1,g2,g3⟩:=(show kd=3∧nu=0∧tx=X from HR)
    subst g1 g2 g3
    exact ⟨st6_bel HBL (Nat.le_succ _) _ _ _ _ _ _,fun _=>rfl,fun g=>absurd g (by decide)⟩
  · have HR:Hid (kd=2∧nu=n∧tx=⟨#[]⟩):=(⟨hkd,hnu,htx⟩:_∧_∧_)
    clear hkd hnu htx HF5 hsl
    have c0:=h5.c0
    have c4:=h5.c4
    have f4:=h5.fz 4
    obtain ⟨W6,hW6,HT6⟩:∃ W6,W6=W5.setCell ⟨w.heap.size,4,none⟩ (.int .i64 n)∧Hid (Ts w 2 p tn n ⟨#[]⟩ W6):=⟨_,rfl,h5.set4 _⟩
    clear h5
    go_upto_region 34 with fail
    rename_i Kr hKr
    have HKR:Hid (∀ (a:Act) (w1:World),bodyPost Tryz.prog Tryz.f144 (NumP w kd p tn nu tx) Exit.ret a w1→Kr a w1):=(fun a w1 h=>hKr a w1 (wp_ret h):∀ (a:Act) (w1:World),bodyPost Tryz.prog Tryz.f144 (NumP w kd p tn nu tx) Exit.ret a w1→Kr a w1)
    go_light
    rw [← hW6]
    clear hW6 c0 c4 f4
    have h6:=(show Ts w 2 p tn n ⟨#[]⟩ W6 from HT6)
    have hc0:=h6.c0
    have hc1:=h6.c1
    have hc2:=h6.c2
    have hc3:=h6.c3
    have hc4:=h6.c4
    have hc5:=h6.c5
    have z3:=h6.rz
    have g0:=z3.c0
    have g1:=z3.c1
    have g2:=z3.c2
    have g3:=z3.c3
    have g4:=z3.c4
    have g5:=z3.c5
    have v0:=z3.f0
    have v1:=z3.f1
    have v2:=z3.f2
    have v3:=z3.f3
    have v4:=z3.f4
    have v5:=z3.f5
    have e0:=st6_c0 z3
    have e1:=st6_c1 z3
    have e2:=st6_c2 z3
    have e3:=st6_c3 z3
    have e4:=st6_c4 z3
    have e5:=st6_c5 z3
    have HBL:Hid (Below w.heap.size w _):=h6.bel
    clear h6 z3
    go_wp2_with fail
    refine (show ∀ (a:Act) (w1:World),bodyPost Tryz.prog Tryz.f144 (NumP w kd p tn nu tx) Exit.ret a w1→Kr a w1 from HKR) _ _ (bodyPost_ret (by simp [results,Tryz.results144,go_sem,e0,e1,e2,e3,e4,e5];rfl) rfl ?_)
    obtain ⟨g1,g2,g3⟩:=(show kd=2∧nu=n∧tx=⟨#[]⟩ from HR)
    subst g1 g2 g3
    exact ⟨st6_bel HBL (Nat.le_succ _) _ _ _ _ _ _,fun _=>rfl,fun g=>absurd g (by decide)⟩
end Go.Proofs.YtomcmnompajnlaaGreatDoor
