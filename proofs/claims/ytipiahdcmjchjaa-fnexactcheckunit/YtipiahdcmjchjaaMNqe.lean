import Derived.Test.YtipiahdcmjchjaaMNqd
set_option maxHeartbeats 16000000
namespace Go.Proofs.Ytipiahdcmjchjaa.Fo
open Go.ChangeShapes Go.WideShapes Go.ChangeAt Go.RowKit
set_option linter.unusedVariables false
set_option maxRecDepth 100000
theorem im_oloop {A : Addr} {nf ca f B : Nat} {d : Fd} (w : World) (hf : f < nf) (hnf : nf ≤ 1048576) (hb : w.cell? ⟨B, 0, none⟩ = some (.slice (some A) nf ca)) (hfn : FnC 0 w (A.add (f * 7)) d) (ok : Fok d) :
    Calls Try.prog 27 #[.pointer (some ⟨B,0,none⟩),.int .i64 (f : Int)] w fun e w'=>∃ r : Int,e = .returned (.int .i64 r) ∧ Fb (R7 d) d.n r ∧ Kb 0 w w':=by
  obtain ⟨vv,vu,vn,⟨d0,d1,d2,d3,d4,d5,d6⟩,hvv,hvu,hvn⟩:=hfn
  obtain ⟨pv,cv,rfl,-⟩:=hvv
  obtain ⟨pu,cu,rfl,-⟩:=hvu
  obtain ⟨pn,cn,rfl,hrow2⟩:=hvn
  obtain ⟨AN,rfl,hcn,-,hra⟩:=hrow2 ok.tree.pos
  obtain ⟨PR,PK,CR,CK,hsl⟩:=node_slots hra
  have hfI : (f : Int) < (nf : Int):=by omega
  have hnfI : (nf : Int) ≤ 1048576:=by omega
  have hnI : (d.n : Int) ≤ 3000:=by have:=ok.hn;omega
  have hsp:=im_spots (Q:=fun _=>False) (d:=d) (AN:=AN) (cnn:=cn) w w ⟨_,_,_,rfl⟩ ⟨_,_,_,rfl⟩ hra (fun _ _=>rfl) (Nat.le_refl _) (fun _ h=>h.elim) hcn ok.tree ok.hn ok.hq ok.hp ok.m0 (by have:=ok.m1;have:=ok.p2;omega) (vv:=.slice pv d.p cv) (vu:=.slice pu d.u cu)
  unfold fnv at hsp
  have HSP : Hid (Calls Try.prog 50 #[.agg #[.string d.x,.int .i64 d.l,.int .i64 d.m,.bool d.r,.slice pv d.p cv,.slice pu d.u cu,.slice (some AN) d.n cn]] w fun e w'=>∃ G,e = .returned (.slice (some ⟨G,0,none⟩) d.n d.n) ∧ Spots (fun _=>False) G d w' ∧ w.heap.size ≤ G ∧ Kb 0 w w'):=hsp
  have HD6 : Hid (w.cell? ⟨(A.add (f * 7)).block,(A.add (f * 7)).off + 6,none⟩ = some (.slice (some AN) d.n cn) ∧ w.cell? ⟨B,0,none⟩ = some (.slice (some A) nf ca) ∧ (∀ i,i < d.n → CelN w (AN.add (i * 8)) (d.N i).a (.slice (PR i) (d.N i).p (CR i)) (.slice (PK i) (d.N i).q (CK i)) ∧ RowB 0 w (.slice (PR i) (d.N i).p (CR i)) (d.N i).p (fun j=>.int .i64 ((d.N i).R j)) ∧ RowB 0 w (.slice (PK i) (d.N i).q (CK i)) (d.N i).q (fun j=>.int .i64 ((d.N i).K j)))):=(⟨d6,hb,hsl⟩ : _ ∧ _)
  clear hsp hra hrow2 hsl hf hnf hcn ok
  go_enter Try.func27,Try.ntmps27
  go_wp2_with fail
  refine (show Calls Try.prog 50 #[.agg #[.string d.x,.int .i64 d.l,.int .i64 d.m,.bool d.r,.slice pv d.p cv,.slice pu d.u cu,.slice (some AN) d.n cn]] w _ from HSP).mono ?_
  rintro e w2 ⟨G,rfl,hsp,hG,k2⟩
  have c6 : w2.cell? ⟨(A.add (f * 7)).block,(A.add (f * 7)).off + 6,none⟩ = some (.slice (some AN) d.n cn):=k2.cell HD6.1
  have cb : w2.cell? ⟨B,0,none⟩ = some (.slice (some A) nf ca):=k2.cell HD6.2.1
  have HB : Hid (Spots (fun _=>False) G d w2 ∧ Kb 0 w w2 ∧ (∀ i,i < d.n → CelN w (AN.add (i * 8)) (d.N i).a (.slice (PR i) (d.N i).p (CR i)) (.slice (PK i) (d.N i).q (CK i)) ∧ RowB 0 w (.slice (PR i) (d.N i).p (CR i)) (d.N i).p (fun j=>.int .i64 ((d.N i).R j)) ∧ RowB 0 w (.slice (PK i) (d.N i).q (CK i)) (d.N i).q (fun j=>.int .i64 ((d.N i).K j)))):=(⟨hsp,k2,HD6.2.2⟩ : _ ∧ _)
  clear HSP hsp hG k2 HD6 d0 d1 d2 d3 d4 d5 d6 hb
  go_wp2_with fail
  clear c6 cb
  go_loopw [25] (fun s25 wr=>∃ t : Nat,s25 = .int .i64 (t : Int) ∧ t ≤ d.n ∧ Hid (Kb 0 w2 wr ∧ ∀ i,i < t → R7 d i)) (fun s25 _=>d.n - (intOf s25).toNat)
  case atStart=>exact ⟨0,rfl,Nat.zero_le _,(⟨Kb.refl _ _,fun i hi=>by omega⟩ : _ ∧ _)⟩
  case round =>
    obtain ⟨t,rfl,htn,HI⟩:=hrel
    obtain ⟨kw,hall⟩:=(show Kb 0 w2 wr ∧ ∀ i,i < t → R7 d i from HI)
    obtain ⟨hsp,k2,hsl⟩:=(show Spots (fun _=>False) G d w2 ∧ Kb 0 w w2 ∧ (∀ i,i < d.n → CelN w (AN.add (i * 8)) (d.N i).a (.slice (PR i) (d.N i).p (CR i)) (.slice (PK i) (d.N i).q (CK i)) ∧ RowB 0 w (.slice (PR i) (d.N i).p (CR i)) (d.N i).p (fun j=>.int .i64 ((d.N i).R j)) ∧ RowB 0 w (.slice (PK i) (d.N i).q (CK i)) (d.N i).q (fun j=>.int .i64 ((d.N i).K j))) from HB)
    have kww:=k2.trans kw
    rcases Nat.lt_or_ge t d.n with ht | ht
    case inr =>
      have HX : Hid (Fb (R7 d) d.n (-1) ∧ Kb 0 w wr):=(⟨.inl ⟨rfl,fun j hj=>hall j (by omega)⟩,kww⟩ : _ ∧ _)
      have htI : ¬ (t : Int) < (d.n : Int):=by omega
      clear HI kw hall HB kww hsp k2 hsl ht htn
      go_wp2_with fail
      go_ret
      exact ⟨-1,rfl,HX.1,HX.2⟩
    have htI : (t : Int) < (d.n : Int):=by omega
    obtain ⟨⟨y0,y1,y2,y3,y4,y5,y6,y7⟩,-,-⟩:=hsl t ht
    replace y0:=kww.cell y0
    replace y1:=kww.cell y1
    replace y2:=kww.cell y2
    replace y3:=kww.cell y3
    replace y4:=kww.cell y4
    replace y5:=kww.cell y5
    replace y6:=kww.cell y6
    replace y7:=kww.cell y7
    obtain ⟨a,b,l,s1,s2,-,-,hbb⟩:=hsp t ht
    have s2a : ∀ o,(wr.alloc o).cell? ⟨G,t * 2 + 1,none⟩ = some (.bool b):=fun o=>(kw.trans (kb_alloc _ _ _)).cell s2
    have hst : ∀ (a : Addr) (n : Nat) (m : Mode) (w : World),(store a (.float .f64 n) m).run Try.prog w = stored Try.prog w a (.float .f64 n) m:=fun a n m w=>run_store _ _ _ _ _ rfl
    clear hsp k2 hsl s1 s2 htn
    by_cases h9 : (d.N t).a.k = 9
    · skip
      by_cases hl : LL d.N d.n t
      · have hbt : b = true:=hbb.trans (dc_t hl)
        subst hbt
        have HX : Hid (Kb 0 w2 (wr.alloc (.cells #[.int .i64 (d.N t).a.k,.int .i64 (d.N t).a.l,.int .i64 (d.N t).a.o,.int .i64 (d.N t).a.m,.float .f64 (d.N t).a.g,.string (d.N t).a.x,.slice (PR t) (d.N t).p (CR t),.slice (PK t) (d.N t).q (CK t)] 79)) ∧ ∀ i,i < t + 1 → R7 d i):=(⟨kw.trans (kb_alloc _ _ _),fun i hi=>by
          by_cases e : i = t
          · rw [e];exact fun _=>hl
          · exact hall i (by omega)⟩ : _ ∧ _)
        clear HI kw hall HB hbb hl kww
        have g9:=beq1 h9
        clear h9
        generalize (d.N t).a.k = kk at *
        go_wp2_with fail
        all_goals
          go_roundw
          case rel=>exact ⟨t + 1,by go_num,by omega,HX⟩
          case measure=>simp [intOf];omega
      · have hbt : b = false:=hbb.trans (dc_f hl)
        subst hbt
        have HX : Hid (Fb (R7 d) d.n (t : Int) ∧ Kb 0 w (wr.alloc (.cells #[.int .i64 (d.N t).a.k,.int .i64 (d.N t).a.l,.int .i64 (d.N t).a.o,.int .i64 (d.N t).a.m,.float .f64 (d.N t).a.g,.string (d.N t).a.x,.slice (PR t) (d.N t).p (CR t),.slice (PK t) (d.N t).q (CK t)] 79))):=(⟨.inr ⟨t,rfl,ht,fun g=>hl (g (.inl h9)),hall⟩,kww.trans (kb_alloc _ _ _)⟩ : _ ∧ _)
        clear HI kw hall HB hbb hl kww
        have g9:=beq1 h9
        clear h9
        generalize (d.N t).a.k = kk at *
        go_wp2_with fail
        all_goals (go_ret;exact ⟨_,rfl,HX.1,HX.2⟩)
    by_cases h10 : (d.N t).a.k = 10
    · skip
      by_cases hl : LL d.N d.n t
      · have hbt : b = true:=hbb.trans (dc_t hl)
        subst hbt
        have HX : Hid (Kb 0 w2 (wr.alloc (.cells #[.int .i64 (d.N t).a.k,.int .i64 (d.N t).a.l,.int .i64 (d.N t).a.o,.int .i64 (d.N t).a.m,.float .f64 (d.N t).a.g,.string (d.N t).a.x,.slice (PR t) (d.N t).p (CR t),.slice (PK t) (d.N t).q (CK t)] 79)) ∧ ∀ i,i < t + 1 → R7 d i):=(⟨kw.trans (kb_alloc _ _ _),fun i hi=>by
          by_cases e : i = t
          · rw [e];exact fun _=>hl
          · exact hall i (by omega)⟩ : _ ∧ _)
        clear HI kw hall HB hbb hl kww
        have g9:=bne h9
        have g10:=beq1 h10
        clear h9 h10
        generalize (d.N t).a.k = kk at *
        go_wp2_with fail
        all_goals
          go_roundw
          case rel=>exact ⟨t + 1,by go_num,by omega,HX⟩
          case measure=>simp [intOf];omega
      · have hbt : b = false:=hbb.trans (dc_f hl)
        subst hbt
        have HX : Hid (Fb (R7 d) d.n (t : Int) ∧ Kb 0 w (wr.alloc (.cells #[.int .i64 (d.N t).a.k,.int .i64 (d.N t).a.l,.int .i64 (d.N t).a.o,.int .i64 (d.N t).a.m,.float .f64 (d.N t).a.g,.string (d.N t).a.x,.slice (PR t) (d.N t).p (CR t),.slice (PK t) (d.N t).q (CK t)] 79))):=(⟨.inr ⟨t,rfl,ht,fun g=>hl (g (.inr h10)),hall⟩,kww.trans (kb_alloc _ _ _)⟩ : _ ∧ _)
        clear HI kw hall HB hbb hl kww
        have g9:=bne h9
        have g10:=beq1 h10
        clear h9 h10
        generalize (d.N t).a.k = kk at *
        go_wp2_with fail
        all_goals (go_ret;exact ⟨_,rfl,HX.1,HX.2⟩)
    have HX : Hid (Kb 0 w2 (wr.alloc (.cells #[.int .i64 (d.N t).a.k,.int .i64 (d.N t).a.l,.int .i64 (d.N t).a.o,.int .i64 (d.N t).a.m,.float .f64 (d.N t).a.g,.string (d.N t).a.x,.slice (PR t) (d.N t).p (CR t),.slice (PK t) (d.N t).q (CK t)] 79)) ∧ ∀ i,i < t + 1 → R7 d i):=(⟨kw.trans (kb_alloc _ _ _),fun i hi=>by
      by_cases e : i = t
      · rw [e];exact fun g=>g.elim (fun g=>absurd g h9) (fun g=>absurd g h10)
      · exact hall i (by omega)⟩ : _ ∧ _)
    clear HI kw hall HB hbb kww
    have g9:=bne h9
    have g10:=bne h10
    clear h9 h10
    generalize (d.N t).a.k = kk at *
    go_wp2_with fail
    all_goals
      go_roundw
      case rel=>exact ⟨t + 1,by go_num,by omega,HX⟩
      case measure=>simp [intOf];omega
end Go.Proofs.Ytipiahdcmjchjaa.Fo
