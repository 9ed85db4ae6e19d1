import Derived.Test.YtipiahdcmjchjaaMNcm
set_option maxHeartbeats 16000000
namespace Go.Proofs.Ytipiahdcmjchjaa.Fo
open Go.ChangeShapes Go.WideShapes Go.ChangeAt Go.RowKit
set_option linter.unusedVariables false
set_option maxRecDepth 100000
def P4 (N : Nat → Nd) (n j : Nat) : Prop:=(j + 1 < n → cn N (j : Int) n = 1) ∧ (j + 1 = n → (N j).a.k = 1)
theorem im_stray {A : Addr} {nf ca f B : Nat} {d : Fd} {vv vu vn : Value} (w : World) (hf : f < nf) (hnf : nf ≤ 1048576) (hb : w.cell? ⟨B, 0, none⟩ = some (.slice (some A) nf ca)) (hcel : CelF w (A.add (f * 7)) d vv vu vn)
    (hrow : RowN 0 w vn d.n d.N) (hn : d.n ≤ 1048576) (hn0 : 0 < d.n) (hq : ∀ t,t < d.n → (d.N t).q ≤ 200) (hK : ∀ t,t < d.n → ∀ i,i < (d.N t).q → 0 ≤ (d.N t).K i ∧ (d.N t).K i < (t : Int)) :
    Calls Try.prog 24 #[.pointer (some ⟨B,0,none⟩),.int .i64 (f : Int)] w fun e w'=>∃ r : Int,e = .returned (.int .i64 r) ∧ Fb (P4 d.N d.n) d.n r ∧ Kb 0 w w':=by
  generalize d.n = n at *
  generalize d.N = N at *
  obtain ⟨pn,cnn,rfl,hrow2⟩:=hrow
  obtain ⟨AN,rfl,hcn,-,hra⟩:=hrow2 hn0
  obtain ⟨d0,d1,d2,d3,d4,d5,d6⟩:=hcel
  have hfI : (f : Int) < (nf : Int):=by omega
  have hnfI : (nf : Int) ≤ 1048576:=by omega
  have hnI : (n : Int) ≤ 1048576:=by omega
  have hmk:=run_make (P:=Try.prog) w 48 3 Try.t3 (.int .i64 0) Try.underlying48 (by kernel_rfl) (by kernel_rfl) .i64 .i64 (n : Int) (n : Int) (by omega) (Int.le_refl _) (by show (8 : Int) * (n : Int) ≤ _;omega) (by omega)
  rw [Int.toNat_natCast] at hmk
  obtain ⟨w1,hw1⟩ : ∃ w1,w1 = w.alloc (.cells (madeCells (.int .i64 0 : Value).cells (n * 1)) 3):=⟨_,rfl⟩
  have hmk2:=hmk
  rw [show n * Try.t3.size = n * 1 from rfl,← hw1] at hmk2
  clear hmk
  have hk1 : Kb 0 w w1:=by rw [hw1];exact kb_alloc _ _ _
  obtain ⟨G,hG⟩ : ∃ G,G = w.heap.size:=⟨_,rfl⟩
  have HA0 : Hid (Ar w1 G n (fun k=>(cn N (k : Int) 0 : Int)) w1):=by
    rw [hG,hw1]
    exact (ar_zero w n 3).eqv (fun j hj=>rfl)
  have HB : Hid ((∀ i,i < n → NodeC 0 w (AN.add (i * 8)) (N i)) ∧ Kb 0 w w1 ∧ G = w.heap.size ∧ (∀ t,t < n → (N t).q ≤ 200) ∧ (∀ t,t < n → ∀ i,i < (N t).q → 0 ≤ (N t).K i ∧ (N t).K i < (t : Int)) ∧ n ≤ 1048576 ∧ 0 < n):=(⟨hra,hk1,hG,hq,hK,hn,hn0⟩ : _ ∧ _)
  rw [← hG] at hmk2
  have hn0I : (0 : Int) < (n : Int):=by omega
  clear hra hrow2 hk1 hw1 hG hq hK hf hnf d0 d1 d2 d3 d4 d5 hn hn0
  go_enter Try.func24,Try.ntmps24
  go_wp2_with fail
  clear d6 hb hmk2
  go_loopw [26] (fun s26 wr=>∃ t : Nat,s26 = .int .i64 (t : Int) ∧ t ≤ n ∧ Hid (Ar w1 G n (fun k=>(cn N (k : Int) t : Int)) wr)) (fun s26 _=>n - (intOf s26).toNat)
  case atStart=>exact ⟨0,rfl,Nat.zero_le _,HA0⟩
  case round =>
    clear HA0
    obtain ⟨t,rfl,ht,HX⟩:=hrel
    have hX:=(show Ar w1 G n (fun k=>(cn N (k : Int) t : Int)) wr from HX)
    obtain ⟨hra,hk1,hG,hq,hK,hn,hn0⟩:=(show (∀ i,i < n → NodeC 0 w (AN.add (i * 8)) (N i)) ∧ Kb 0 w w1 ∧ G = w.heap.size ∧ (∀ t,t < n → (N t).q ≤ 200) ∧ (∀ t,t < n → ∀ i,i < (N t).q → 0 ≤ (N t).K i ∧ (N t).K i < (t : Int)) ∧ n ≤ 1048576 ∧ 0 < n from HB)
    rcases Nat.lt_or_ge t n with h | h
    · have hI : (t : Int) < (n : Int):=by omega
      have kw : Kb 0 w wr:=hX.old hk1 (by omega)
      obtain ⟨vr,vk,⟨c0,c1,c2,c3,c4,c5,c6,c7⟩,hvr,hvk⟩:=(hra t h).keep (Nat.zero_le _) kw
      obtain ⟨pr,cr,rfl,-⟩:=hvr
      obtain ⟨pk,ck',rfl,-⟩:=id hvk
      have hq1:=hq t h
      have hqI : ((N t).q : Int) ≤ 200:=by omega
      have hst : ∀ (a : Addr) (n : Nat) (m : Mode) (w : World),(store a (.float .f64 n) m).run Try.prog w = stored Try.prog w a (.float .f64 n) m:=fun a n m w=>run_store _ _ _ _ _ rfl
      obtain ⟨W0,hW0⟩ : ∃ W0,W0 = wr.alloc (.cells #[.int .i64 (N t).a.k,.int .i64 (N t).a.l,.int .i64 (N t).a.o,.int .i64 (N t).a.m,.float .f64 (N t).a.g,.string (N t).a.x,.slice pr (N t).p cr,.slice pk (N t).q ck'] 79):=⟨_,rfl⟩
      have ar0 : Ar w1 G n (fun k=>((cn N (k : Int) t + ck (N t).K (k : Int) 0 : Nat) : Int)) W0:=by
        rw [hW0]
        exact (hX.kb (kb_alloc _ _ _)).eqv (fun j hj=>rfl)
      have HAR0 : Hid (Ar w1 G n (fun k=>((cn N (k : Int) t + ck (N t).K (k : Int) 0 : Nat) : Int)) W0):=ar0
      have HROW : Hid (RowB 0 w (.slice pk (N t).q ck') (N t).q (fun i=>.int .i64 ((N t).K i))):=by
        obtain ⟨vr2,vk2,cc,hvr2,hvk2⟩:=hra t h
        have e:=(kw.cell cc.c7).symm.trans c7
        have e2 : vk2 = .slice pk (N t).q ck':=by simpa using e
        rw [← e2];exact hvk2
      clear HX hX ar0 kw hvk hra hk1 hG hq hK hn hn0 hq1
      go_wp2_with fail
      rw [← hW0]
      clear hW0 c0 c1 c2 c3 c4 c5 c6 c7
      go_loopw [33] (fun s33 wr=>∃ i : Nat,s33 = .int .i64 (i : Int) ∧ i ≤ (N t).q ∧ Hid (Ar w1 G n (fun k=>((cn N (k : Int) t + ck (N t).K (k : Int) i : Nat) : Int)) wr)) (fun s33 _=>(N t).q - (intOf s33).toNat)
      case atStart=>exact ⟨0,rfl,Nat.zero_le _,HAR0⟩
      case round =>
        clear HAR0
        obtain ⟨i,rfl,hi,HX⟩:=hrel
        have hX:=(show Ar w1 G n (fun k=>((cn N (k : Int) t + ck (N t).K (k : Int) i : Nat) : Int)) wr from HX)
        obtain ⟨hra,hk1,hG,hq,hK,hn,hn0⟩:=(show (∀ i,i < n → NodeC 0 w (AN.add (i * 8)) (N i)) ∧ Kb 0 w w1 ∧ G = w.heap.size ∧ (∀ t,t < n → (N t).q ≤ 200) ∧ (∀ t,t < n → ∀ i,i < (N t).q → 0 ≤ (N t).K i ∧ (N t).K i < (t : Int)) ∧ n ≤ 1048576 ∧ 0 < n from HB)
        rcases Nat.lt_or_ge i (N t).q with h2 | h2
        · have hI2 : (i : Int) < ((N t).q : Int):=by omega
          have kw : Kb 0 w wr:=hX.old hk1 (by omega)
          obtain ⟨pk',ck2,e1,hrow2⟩:=(show RowB 0 w (.slice pk (N t).q ck') (N t).q (fun i=>.int .i64 ((N t).K i)) from HROW).keep kw
          obtain ⟨rfl,-,rfl⟩ : pk = pk' ∧ (N t).q = (N t).q ∧ ck' = ck2:=by simpa using e1
          obtain ⟨b,rfl,hcb,-,hrb⟩:=hrow2 (by omega)
          have qa : wr.cell? (b.add i) = some (.int .i64 ((N t).K i)):=hrb i h2
          obtain ⟨kn,hkn⟩:=Int.eq_ofNat_of_zero_le (hK t h i h2).1
          have hknt : kn < n:=by have:=(hK t h i h2).2;omega
          have hknI : (kn : Int) < (n : Int):=by omega
          rw [hkn] at qa
          obtain ⟨x,hx⟩ : ∃ x : Int,x = ((cn N (kn : Int) t + ck (N t).K (kn : Int) i : Nat) : Int):=⟨_,rfl⟩
          have cg : wr.cell? ⟨G,kn,none⟩ = some (.int .i64 x):=by rw [hx];exact hX.ce kn hknt
          have fg : wr.frozen? ⟨G,kn,none⟩ = false:=hX.fz kn
          have hx0 : 0 ≤ x:=by omega
          have hx1 : x ≤ 1000000000:=by
            have a1:=cn_le hq (kn : Int) t (by omega)
            have a2:=ck_le (N t).K (kn : Int) i
            have a3:=hq t h
            omega
          have HN : Hid (Ar w1 G n (fun k=>((cn N (k : Int) t + ck (N t).K (k : Int) (i + 1) : Nat) : Int)) (wr.setCell ⟨G,kn,none⟩ (.int .i64 (x + 1)))):=hX.set hknt (fun j hj=>by
            show ((cn N (j : Int) t + (ck (N t).K (j : Int) i + (if (N t).K i = (j : Int) then 1 else 0)) : Nat) : Int) = _
            rw [hkn]
            by_cases e : j = kn
            · subst e;rw [if_pos rfl,if_pos rfl,hx];omega
            · rw [if_neg (by omega),if_neg e];omega)
          clear HX hX hra hk1 hG hq hK hn hn0 hrow2 hrb e1 kw hkn hx HROW h hknt
          go_wp2_with fail
          go_roundw
          case rel=>exact ⟨i + 1,by go_num,by omega,HN⟩
          case measure=>simp [intOf];omega
        · obtain rfl : i = (N t).q:=by omega
          have HN : Hid (Ar w1 G n (fun k=>(cn N (k : Int) (t + 1) : Int)) wr):=hX.eqv (fun j hj=>rfl)
          have hI2 : ¬ ((N t).q : Int) < ((N t).q : Int):=by omega
          clear HX hX hra hk1 hG hq hK hn hn0 HROW
          go_wp2_with fail
          go_roundw
          case rel=>exact ⟨t + 1,by go_num,by omega,HN⟩
          case measure=>simp [intOf];omega
    · obtain rfl : t = n:=by omega
      have hI : ¬ (t : Int) < (t : Int):=by omega
      have kw : Kb 0 w wr:=hX.old hk1 (by omega)
      have hR : RowV wr (.slice (some ⟨G,0,none⟩) (t - 1) t) (t - 1) (fun k=>.int .i64 (cn N (k : Int) t : Int)):=⟨_,_,rfl,fun _=>⟨⟨G,0,none⟩,rfl,by omega,fun k hk=>by rw [addr0];exact hX.ce k (by omega)⟩⟩
      have QI:=im_ixint (Q:=fun c=>c = 1) im_stray1 (fun _ _=>by kernel_rfl) wr hR (by omega)
      obtain ⟨vr,vk,⟨c0,-,-,-,-,-,-,-⟩,-,-⟩:=(hra (t - 1) (by omega)).keep (Nat.zero_le _) kw
      have HQI : Hid (Calls Try.prog 47 #[.slice (some ⟨G,0,none⟩) (t - 1) t,.func (.func 48) #[] #[]] wr fun e w'=>∃ r : Int,e = .returned (.int .i64 r) ∧ Fb (fun j=>(cn N (j : Int) t : Int) = 1) (t - 1) r ∧ w' = wr):=QI
      have HKW : Hid (Kb 0 w wr):=kw
      have hl0 : (0 : Int) ≤ (t : Int) - 1:=by omega
      clear HX hX hra hk1 hG hq hK hR QI kw HB
      go_wp2_with fail
      refine (show Calls Try.prog 47 #[.slice (some ⟨G,0,none⟩) (t - 1) t,.func (.func 48) #[] #[]] wr fun e w'=>∃ r : Int,e = .returned (.int .i64 r) ∧ Fb (fun j=>(cn N (j : Int) t : Int) = 1) (t - 1) r ∧ w' = wr from HQI).mono ?_
      rintro e w2 ⟨r,rfl,hFb,rfl⟩
      rcases hFb with ⟨rfl,hall⟩ | ⟨j,rfl,j1,j2,j3⟩
      · by_cases hk : (N (t - 1)).a.k = 1
        · have HF : Hid (Fb (P4 N t) t (-1)):=Or.inl ⟨rfl,fun j hj=>⟨fun hj2=>by have:=hall j (by omega);omega,fun e=>by rw [show j = t - 1 by omega];exact hk⟩⟩
          have gk : ((N (t - 1)).a.k != 1) = false:=by simp [hk]
          have gk2:=beq1 hk
          clear hall HQI hk
          go_wp2_with fail
          go_ret
          exact ⟨_,rfl,HF,HKW⟩
        · have HF : Hid (Fb (P4 N t) t ((t - 1 : Nat) : Int)):=Or.inr ⟨t - 1,rfl,by omega,fun g=>hk (g.2 (by omega)),fun j hj=>⟨fun hj2=>by have:=hall j (by omega);omega,fun e=>by omega⟩⟩
          have gk : ((N (t - 1)).a.k != 1) = true:=by simp [hk]
          have gk2:=bne hk
          have ht1 : ((t - 1 : Nat) : Int) = (t : Int) - 1:=by omega
          rw [ht1] at HF
          clear hall HQI hk ht1
          go_wp2_with fail
          go_ret
          exact ⟨_,rfl,HF,HKW⟩
      · have HF : Hid (Fb (P4 N t) t (j : Int)):=Or.inr ⟨j,rfl,by omega,fun g=>j2 (by have:=g.1 (by omega);show (cn N (j : Int) t : Int) = 1;omega),fun i hi=>⟨fun _=>by have:=j3 i hi;have : (cn N (i : Int) t : Int) = 1:=this;omega,fun e=>by omega⟩⟩
        have gj : (0 : Int) ≤ (j : Int):=by omega
        clear HQI j1 j2 j3
        go_wp2_with fail
        go_ret
        exact ⟨_,rfl,HF,HKW⟩
end Go.Proofs.Ytipiahdcmjchjaa.Fo
