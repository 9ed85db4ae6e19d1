import Derived.Test.YtfpidccjcemcjaaGreatMZsq
import Derived.Test.YtfpidccjcemcjaaGreatMNgb
set_option maxHeartbeats 16000000
namespace Go.Proofs.YtfpidccjcemcjaaGreat.Fo
open Go.ChangeShapes Go.WideShapes Go.ChangeAt Go.RowKit
set_option linter.unusedVariables false
set_option maxRecDepth 100000
theorem sp_second {va : Value} {nf : Nat} {F : Nat → Fd} (w : World) (ha : RowF 0 w va nf F) (hb : Bd nf F) (h2 : La (P2 F) L1 nf) (h3 : La (P3 F) (Ln F) nf) :
    Calls Tryz.prog 23 #[.agg #[va]] w fun e w'=>∃ c f n:Nat,e = .returned (.agg #[.int .i64 (c:Int),.int .i64 (f:Int),.int .i64 (n:Int)])∧An2 nf F c f n∧Kb 0 w w':=by
  obtain ⟨pa,ca,rfl,ha2⟩:=ha
  have hnI:(nf:Int)≤1048576:=by have:=hb.hnf;omega
  obtain ⟨w2,hw2⟩:∃ w2,w2=(w.alloc (.cells #[.slice pa nf ca] 30)).alloc (.cells #[.int .i64 0,.int .i64 0,.int .i64 0] 39):=⟨_,rfl⟩
  have k2:Kb 0 w w2:=by rw [hw2];exact kb_alloc2 _ _ _ _
  have b0:w2.heap[w.heap.size]? = some (.cells #[.slice pa nf ca] 30 (0,0)):=by
    rw [hw2,(kb_alloc 0 _ _).block _ zq (by rw [World.size_alloc];omega)]
    exact alloc_new _ _ _
  have b1:w2.heap[w.heap.size+1]? = some (.cells #[.int .i64 0,.int .i64 0,.int .i64 0] 39 (0,0)):=by
    have e:(w.alloc (.cells #[.slice pa nf ca] 30)).heap.size=w.heap.size+1:=World.size_alloc _ _
    rw [hw2,← e]
    exact alloc_new _ _ _
  have sz2:w2.heap.size=w.heap.size+2:=by rw [hw2];simp
  have HRES:Hid (∀ W,Kb 0 w2 W→W.cell? ⟨w.heap.size+1,0,none⟩=some (.int .i64 0)∧W.cell? ⟨w.heap.size+1,1,none⟩=some (.int .i64 0)∧W.cell? ⟨w.heap.size+1,2,none⟩=some (.int .i64 0)∧(∀ j,W.frozen? ⟨w.heap.size+1,j,none⟩=false)∧Kb 0 w W∧w.heap.size+1 < W.heap.size):=(fun W k=>by
    have:=k.size
    exact ⟨k.cell (cell_of b1 rfl),k.cell (cell_of b1 rfl),k.cell (cell_of b1 rfl),fun j=>(k.frozen zq (by omega)).trans (frozen_of b1),k2.trans k,by omega⟩:∀ W,_)
  have HBOX:Hid (∀ W,Kb 0 w2 W→W.cell? ⟨w.heap.size,0,none⟩=some (.slice pa nf ca)):=(fun W k=>k.cell (cell_of b0 rfl):∀ W,_)
  have HFN:Hid (∀ W,Kb 0 w2 W→0 < nf→∃ a:Addr,pa=some a∧nf≤ca∧∀ i,i < nf→FnC 0 W (a.add (i*7)) (F i)):=(fun W k h0=>by
    obtain ⟨a,e1,e2,-,e3⟩:=ha2 h0
    exact ⟨a,e1,e2,fun i hi=>(e3 i hi).keep zq (k2.trans k)⟩:∀ W,_)
  have HGR:Hid (∀ W,Kb 0 w2 W→∀ f,f < nf→∀ pn cnn,RowN 0 W (.slice pn (F f).n cnn) (F f).n (F f).N→Calls Tryz.prog 39 #[.slice pn (F f).n cnn] W fun e w'=>∃ (PA DA:Nat→Int) (gp gd:Nat),e = .returned (.agg #[.slice (some ⟨gp,0,none⟩) (F f).n (F f).n,.slice (some ⟨gd,0,none⟩) (F f).n (F f).n])∧RowV w' (.slice (some ⟨gp,0,none⟩) (F f).n (F f).n) (F f).n (fun k=>.int .i64 (PA k))∧RowV w' (.slice (some ⟨gd,0,none⟩) (F f).n (F f).n) (F f).n (fun k=>.int .i64 (DA k))∧Grn (F f).N (F f).n PA DA∧Kb 0 W w'):=(fun W k f hf pn cnn hr=>by
    have hn0 : 0 < (F f).n:=(h2 f hf 0 Nat.zero_lt_one).1
    obtain ⟨pa',ca',e,hr2⟩:=hr
    obtain ⟨A,e2,e3,-,e4⟩:=hr2 hn0
    simp only [Value.slice.injEq] at e
    obtain ⟨rfl,-,rfl⟩:=e
    subst e2
    exact sp_grow W (hb.hn f hf) hn0 e4 (kids_ok hb h3 f hf).1 (kids_ok hb h3 f hf).2:∀ W,_)
  have HBD:Hid (Bd nf F∧La (P2 F) L1 nf∧La (P3 F) (Ln F) nf):=(⟨hb,h2,h3⟩:_∧_)
  have HW:Hid (w2=(w.alloc (.cells #[.slice pa nf ca] 30)).alloc (.cells #[.int .i64 0,.int .i64 0,.int .i64 0] 39)):=hw2
  clear ha2 hb hw2 k2 b0 b1 sz2 h2 h3
  go_enter Tryz.func23,Tryz.ntmps23
  go_wp2_with fail
  rw [← (uh HW)]
  clear HW
  go_loopw [14] (fun s14 wr=>∃ f:Nat,s14 = .int .i64 (f:Int)∧f≤nf∧Hid (Kb 0 w2 wr∧∀ g,g < f→∀ t,t < (F g).n→Q4 F g t)) (fun s14 _=>nf - (intOf s14).toNat)
  case atStart=>exact ⟨0,rfl,Nat.zero_le _,(⟨Kb.refl _ _,fun g hg=>by omega⟩:_∧_)⟩
  case round =>
    obtain ⟨f,rfl,hf,HX⟩:=hrel
    obtain ⟨kw,hX⟩:=(uh HX)
    rcases Nat.lt_or_ge f nf with h | h
    · have hI:(f:Int) < (nf:Int):=by omega
      have c2:wr.cell? ⟨w.heap.size,0,none⟩=some (.slice pa nf ca):=(uh HBOX) wr kw
      obtain ⟨a,rfl,hca,hra⟩:=(uh HFN) wr kw (by omega)
      obtain ⟨vv,vu,vn,⟨-,-,-,-,-,-,d6⟩,-,-,hvn⟩:=hra f h
      obtain ⟨hb,h2,h3⟩:=(uh HBD)
      have hnn:=hb.hn f h
      have hn0 : 0 < (F f).n:=(h2 f h 0 Nat.zero_lt_one).1
      have hnI2:((F f).n:Int)≤1048576:=by omega
      have hnI0:(0:Int) < ((F f).n:Int):=by omega
      have hvn2:=hvn
      obtain ⟨pn,cnn,rfl,-⟩:=hvn
      have HC:=(uh HGR) wr kw f h pn cnn hvn2
      have HNR:Hid (∀ W,Kb 0 wr W→RowN 0 W (.slice pn (F f).n cnn) (F f).n (F f).N):=(fun W k=>hvn2.keep k:∀ W,_)
      have HKF:Hid (Kb 0 w2 wr∧(∀ g,g < f→∀ t,t < (F g).n→Q4 F g t)∧f < nf∧0 < (F f).n):=(⟨kw,hX,h,hn0⟩:_∧_)
      clear HX hX kw hra hb h2 h3 hnn h hn0 hvn2
      go_wp2_with fail
      refine HC.mono ?_
      rintro e w5 ⟨PA,DA,gp,gd,rfl,rp,rd,hG,k5⟩
      obtain ⟨w6,hw6⟩:∃ w6,w6=w5.alloc (.cells #[.slice (some ⟨gp,0,none⟩) (F f).n (F f).n,.slice (some ⟨gd,0,none⟩) (F f).n (F f).n] 75):=⟨_,rfl⟩
      have k6:Kb 0 wr w6:=by rw [hw6];exact k5.trans (kb_alloc _ _ _)
      have x0:w6.cell? ⟨w5.heap.size,0,none⟩=some (.slice (some ⟨gp,0,none⟩) (F f).n (F f).n):=by rw [hw6];exact cell_of (alloc_new _ _ _) rfl
      have HP:Hid (∀ k,k < (F f).n→w6.cell? ⟨gp,k,none⟩=some (.int .i64 (PA k))):=by
        intro k hk
        obtain ⟨pa',ca',e,hh⟩:=rp
        obtain ⟨A,e2,_,e4⟩:=hh (by omega)
        simp only [Value.slice.injEq] at e
        have e5:A=⟨gp,0,none⟩:=by have:=e.1;rw [e2] at this;exact (Option.some.inj this).symm
        have:=e4 k hk
        rw [e5,addr0] at this
        rw [hw6];exact (kb_alloc 0 _ _).cell this
      have HG:Hid (Grn (F f).N (F f).n PA DA):=hG
      have HK6:Hid (Kb 0 wr w6):=k6
      have HW6:Hid (w6=w5.alloc (.cells #[.slice (some ⟨gp,0,none⟩) (F f).n (F f).n,.slice (some ⟨gd,0,none⟩) (F f).n (F f).n] 75)):=hw6
      clear HC rp rd hG k5 k6 hw6 c2 d6 HGR
      go_wp2_with fail
      rw [← (uh HW6)]
      clear HW6
      generalize w5.heap.size=X at *
      go_loopw [27] (fun s27 wr=>∃ t:Nat,s27 = .int .i64 (t:Int)∧t≤(F f).n∧wr=w6∧Hid (∀ y,y < t→Q4 F f y)) (fun s27 _=>(F f).n - (intOf s27).toNat)
      case atStart=>exact ⟨0,rfl,Nat.zero_le _,rfl,(fun y hy=>by omega:∀ y,_)⟩
      case round =>
        obtain ⟨t,rfl,ht,rfl,HY⟩:=hrel
        have hY:=(uh HY)
        obtain ⟨kf,hXf,hfn,hn0⟩:=(uh HKF)
        have hG:=(uh HG)
        have kc:=kf.trans (uh HK6)
        rcases Nat.lt_or_ge t (F f).n with h | h
        · have hI3:(t:Int) < ((F f).n:Int):=by omega
          have cp:=(uh HP) t h
          obtain ⟨pn',cn',e,hr2⟩:=(uh HNR) wr HK6
          obtain ⟨AN,e2,-,-,hr3⟩:=hr2 (by omega)
          simp only [Value.slice.injEq] at e
          obtain ⟨rfl,-,rfl⟩:=e
          subst e2
          obtain ⟨_,_,⟨ck0,-,-,-,-,-,-,-⟩,-,-⟩:=hr3 t h
          have HKC:Hid (Kb 0 w2 wr):=kc
          by_cases hl:t+1=(F f).n
          · have gl:((t:Int) == ((F f).n:Int) - 1)=true:=beq1 (by omega)
            have hPt:PA t = -1:=by rw [show t=(F f).n - 1 by omega];exact hG.1
            rw [hPt] at cp
            by_cases hk1:((F f).N t).a.k=1
            · have HN : Hid (∀ y, y < t + 1 → Q4 F f y) := (fun y hy => by
                by_cases e:y=t
                · subst e;exact ⟨fun g=>by omega,fun _=>hk1⟩
                · exact hY y (by omega):∀ y,_)
              have gk:(((F f).N t).a.k != 1)=false:=by simp [hk1]
              have gk2:=beq1 hk1
              clear HY hY kf hXf hfn hn0 hG kc hr2 hr3 hk1 hPt hl HP HG HNR HKF HRES HBOX HFN HBD
              generalize ((F f).N t).a.k=kk at *
              go_wp2_with fail
              go_roundw
              case rel=>exact ⟨t+1,by go_num,by omega,by trivial,HN⟩
              case measure=>simp [intOf];omega
            · have HAN0:Hid (An2 nf F 4 f t):=Or.inl ⟨rfl,hfn,h,fun g=>hk1 (g.2 hl),hY,hXf⟩
              have gk:(((F f).N t).a.k != 1)=true:=by simp [hk1]
              have gk2:=bne hk1
              clear HY hY kf hXf hfn hn0 hG kc hr2 hr3 hk1 hPt hl HP HG HNR HKF HBOX HFN HBD
              generalize ((F f).N t).a.k=kk at *
              go_wp2_with fail
              have KCUR:=(uh HKC)
              have HRES1:=(uh HRES)
              refine (sp_fault 4 (f:Int) (t:Int) _).mono ?_
              rintro e w9 ⟨rfl,k9⟩
              have r0:w9.cell? ⟨w.heap.size+1,0,none⟩=some (.int .i64 0):=k9.cell (HRES1 _ KCUR).1
              have r1:w9.cell? ⟨w.heap.size+1,1,none⟩=some (.int .i64 0):=k9.cell (HRES1 _ KCUR).2.1
              have r2:w9.cell? ⟨w.heap.size+1,2,none⟩=some (.int .i64 0):=k9.cell (HRES1 _ KCUR).2.2.1
              have fr:∀ j,w9.frozen? ⟨w.heap.size+1,j,none⟩=false:=fun j=>(HRES1 w9 (KCUR.trans k9)).2.2.2.1 j
              have HKW:Hid (Kb 0 w w9∧w.heap.size+1 < w9.heap.size):=(⟨(HRES1 w9 (KCUR.trans k9)).2.2.2.2.1,(HRES1 w9 (KCUR.trans k9)).2.2.2.2.2⟩:_∧_)
              have HAN:Hid (An2 nf F 4 f t):=HAN0
              clear k9
              clear KCUR HRES1 HRES HKC HAN0 HK6 cp ck0 x0
              go_wp2_with fail
              refine bodyPost_ret (by simp [results,Tryz.results23,go_sem,r0,r1,r2];rfl) rfl ?_
              exact ⟨_,_,_,rfl,HAN,(((show Kb 0 w w9 from HKW.1).setCell ⟨w.heap.size+1,0,none⟩ (Or.inr (by show w.heap.size≤w.heap.size+1;omega)) _).setCell ⟨w.heap.size+1,1,none⟩ (Or.inr (by show w.heap.size≤w.heap.size+1;omega)) _).setCell ⟨w.heap.size+1,2,none⟩ (Or.inr (by show w.heap.size≤w.heap.size+1;omega)) _⟩
          · have gl:((t:Int) == ((F f).n:Int) - 1)=false:=bne (by omega)
            obtain ⟨p0,p1,p2⟩:=hG.2.1 t (by omega)
            by_cases hv:PA t < 0
            · have HAN0 : Hid (An2 nf F 4 f t) := Or.inl ⟨rfl, hfn, h, fun g => by
                have hcc:=g.1 (by clear p1;omega)
                obtain ⟨t',_,e,_⟩:=p1 hcc
                clear p1 p0 p2
                omega,hY,hXf⟩
              clear HY hY kf hXf hfn hn0 hG kc hr2 hr3 p0 p1 p2 hl HP HG HNR HKF HBOX HFN HBD
              generalize PA t=pv at *
              go_wp2_with fail
              have KCUR:=(uh HKC)
              have HRES1:=(uh HRES)
              refine (sp_fault 4 (f:Int) (t:Int) _).mono ?_
              rintro e w9 ⟨rfl,k9⟩
              have r0:w9.cell? ⟨w.heap.size+1,0,none⟩=some (.int .i64 0):=k9.cell (HRES1 _ KCUR).1
              have r1:w9.cell? ⟨w.heap.size+1,1,none⟩=some (.int .i64 0):=k9.cell (HRES1 _ KCUR).2.1
              have r2:w9.cell? ⟨w.heap.size+1,2,none⟩=some (.int .i64 0):=k9.cell (HRES1 _ KCUR).2.2.1
              have fr:∀ j,w9.frozen? ⟨w.heap.size+1,j,none⟩=false:=fun j=>(HRES1 w9 (KCUR.trans k9)).2.2.2.1 j
              have HKW:Hid (Kb 0 w w9∧w.heap.size+1 < w9.heap.size):=(⟨(HRES1 w9 (KCUR.trans k9)).2.2.2.2.1,(HRES1 w9 (KCUR.trans k9)).2.2.2.2.2⟩:_∧_)
              have HAN:Hid (An2 nf F 4 f t):=HAN0
              clear k9
              clear KCUR HRES1 HRES HKC HAN0 HK6 cp ck0 x0
              go_wp2_with fail
              refine bodyPost_ret (by simp [results,Tryz.results23,go_sem,r0,r1,r2];rfl) rfl ?_
              exact ⟨_,_,_,rfl,HAN,(((show Kb 0 w w9 from HKW.1).setCell ⟨w.heap.size+1,0,none⟩ (Or.inr (by show w.heap.size≤w.heap.size+1;omega)) _).setCell ⟨w.heap.size+1,1,none⟩ (Or.inr (by show w.heap.size≤w.heap.size+1;omega)) _).setCell ⟨w.heap.size+1,2,none⟩ (Or.inr (by show w.heap.size≤w.heap.size+1;omega)) _⟩
            · have HN : Hid (∀ y, y < t + 1 → Q4 F f y) := (fun y hy => by
                by_cases e:y=t
                · subst e
                  refine ⟨fun g=>?_,fun g=>by clear p1;omega⟩
                  rcases Nat.lt_trichotomy (cn (F f).N (y:Int) (F f).n) 1 with z | z | z
                  · have:=p0 (by clear p1;omega);clear p1;omega
                  · exact z
                  · have:=p2 z;clear p1;omega
                · exact hY y (by clear p1;omega):∀ y,_)
              clear HY hY kf hXf hfn hn0 hG kc hr2 hr3 p0 p1 p2 hl HP HG HNR HKF HRES HBOX HFN HBD
              generalize PA t=pv at *
              go_wp2_with fail
              go_roundw
              case rel=>exact ⟨t+1,by go_num,by omega,by trivial,HN⟩
              case measure=>simp [intOf];omega
        · have hI3:¬ (t:Int) < ((F f).n:Int):=by omega
          have HN:Hid (Kb 0 w2 wr∧∀ g,g < f+1→∀ t,t < (F g).n→Q4 F g t):=(⟨kc,fun g hg y hy=>by
            by_cases e:g=f
            · subst e;exact hY y (by omega)
            · exact hXf g (by omega) y hy⟩:_∧_)
          clear HY hY kf hXf hG kc HP HG HNR HKF HRES HBOX HFN HBD x0
          go_wp2_with fail
          go_roundw
          case rel=>exact ⟨f+1,by go_num,by omega,HN⟩
          case measure=>simp [intOf];omega
    · have hI:¬ (f:Int) < (nf:Int):=by omega
      have HLA:Hid (La (Q4 F) (Ln F) nf):=(fun g hg t ht=>hX g (by omega) t ht:∀ g,_)
      have HKC:Hid (Kb 0 w2 wr):=kw
      have c2:wr.cell? ⟨w.heap.size,0,none⟩=some (.slice pa nf ca):=(uh HBOX) wr kw
      clear HX hX kw
      go_wp2_with fail
      clear c2 hI h hf
      go_loopw [72] (fun s72 wr=>∃ f:Nat,s72 = .int .i64 (f:Int)∧f≤nf∧Hid (Kb 0 w2 wr∧∀ g,g < f→∀ t,t < (F g).n→Q5 F g t)) (fun s72 _=>nf - (intOf s72).toNat)
      case atStart=>exact ⟨0,rfl,Nat.zero_le _,(⟨HKC,fun g hg=>by omega⟩:_∧_)⟩
      case round =>
        clear HKC
        obtain ⟨f,rfl,hf,HX⟩:=hrel
        obtain ⟨kw,hX⟩:=(uh HX)
        rcases Nat.lt_or_ge f nf with h | h
        · have hI:(f:Int) < (nf:Int):=by omega
          have c2:wr.cell? ⟨w.heap.size,0,none⟩=some (.slice pa nf ca):=(uh HBOX) wr kw
          obtain ⟨a,rfl,hca,hra⟩:=(uh HFN) wr kw (by omega)
          obtain ⟨vv,vu,vn,⟨-,-,-,-,-,-,d6⟩,-,-,hvn⟩:=hra f h
          obtain ⟨hb,h2,h3⟩:=(uh HBD)
          have hnn:=hb.hn f h
          have hnI2:((F f).n:Int)≤1048576:=by omega
          have hvn2:=hvn
          obtain ⟨pn,cnn,rfl,-⟩:=hvn
          have HC:=(uh HGR) wr kw f h pn cnn hvn2
          have HUQ:Hid (∀ PA DA,Grn (F f).N (F f).n PA DA→∀ t,t < (F f).n→(Q5 F f t↔DA t≤100)):=(fun PA DA hG t ht=>⟨fun g=>g PA DA hG,fun g PB DB hB=>by
            have:=(grn_uniq hG hB (fun k hk=>((uh HLA) f h k (Nat.lt_of_succ_lt hk)).1 hk) (kids_ok hb h3 f h).2).2 t ht
            omega⟩:∀ PA DA,_)
          have HKF:Hid (Kb 0 w2 wr∧(∀ g,g < f→∀ t,t < (F g).n→Q5 F g t)∧f < nf):=(⟨kw,hX,h⟩:_∧_)
          have HCC:Hid (∀ W,Kb 0 wr W→W.cell? ⟨w.heap.size,0,none⟩=some (.slice (some a) nf ca)∧W.cell? ⟨(a.add (f*7)).block,(a.add (f*7)).off+6,none⟩=some (.slice pn (F f).n cnn)):=(fun W k=>⟨k.cell c2,k.cell d6⟩:∀ W,_)
          clear HX hX kw hra hb h2 h3 hnn h hvn2
          go_wp2_with fail
          refine HC.mono ?_
          rintro e w5 ⟨PA,DA,gp,gd,rfl,rp,rd,hG,k5⟩
          obtain ⟨w6,hw6⟩:∃ w6,w6=w5.alloc (.cells #[.slice (some ⟨gp,0,none⟩) (F f).n (F f).n,.slice (some ⟨gd,0,none⟩) (F f).n (F f).n] 75):=⟨_,rfl⟩
          have k6:Kb 0 wr w6:=by rw [hw6];exact k5.trans (kb_alloc _ _ _)
          have x1:w6.cell? ⟨w5.heap.size,1,none⟩=some (.slice (some ⟨gd,0,none⟩) (F f).n (F f).n):=by rw [hw6];exact cell_of (alloc_new _ _ _) rfl
          have HP:Hid (∀ k,k < (F f).n→w6.cell? ⟨gd,k,none⟩=some (.int .i64 (DA k))):=by
            intro k hk
            obtain ⟨pa',ca',e,hh⟩:=rd
            obtain ⟨A,e2,_,e4⟩:=hh (by omega)
            simp only [Value.slice.injEq] at e
            have e5:A=⟨gd,0,none⟩:=by have:=e.1;rw [e2] at this;exact (Option.some.inj this).symm
            have:=e4 k hk
            rw [e5,addr0] at this
            rw [hw6];exact (kb_alloc 0 _ _).cell this
          have HUD:Hid (∀ t,t < (F f).n→(Q5 F f t↔DA t≤100)):=(uh HUQ) PA DA hG
          obtain ⟨cx,dx⟩:=(uh HCC) w6 k6
          have HK6:Hid (Kb 0 w2 w6∧(∀ g,g < f→∀ t,t < (F g).n→Q5 F g t)∧f < nf):=(⟨HKF.1.trans k6,HKF.2⟩:_∧_)
          have HW6:Hid (w6=w5.alloc (.cells #[.slice (some ⟨gp,0,none⟩) (F f).n (F f).n,.slice (some ⟨gd,0,none⟩) (F f).n (F f).n] 75)):=hw6
          rw [hw6] at cx dx
          clear HC rp rd hG k5 k6 hw6 c2 d6 HGR HUQ HCC HKF
          go_wp2_with fail
          rw [← (uh HW6)]
          clear HW6 cx dx
          generalize w5.heap.size=X at *
          go_loopw [89] (fun s89 wr=>∃ t:Nat,s89 = .int .i64 (t:Int)∧t≤(F f).n∧wr=w6∧Hid (∀ y,y < t→Q5 F f y)) (fun s89 _=>(F f).n - (intOf s89).toNat)
          case atStart=>exact ⟨0,rfl,Nat.zero_le _,rfl,(fun y hy=>by omega:∀ y,_)⟩
          case round =>
            obtain ⟨t,rfl,ht,rfl,HY⟩:=hrel
            have hY:=(uh HY)
            obtain ⟨kc,hXf,hfn⟩:=(uh HK6)
            rcases Nat.lt_or_ge t (F f).n with h | h
            · have hI3:(t:Int) < ((F f).n:Int):=by omega
              have cp:=(uh HP) t h
              have hiff:=(uh HUD) t h
              have HKC:Hid (Kb 0 w2 wr):=kc
              by_cases hv:DA t≤100
              · have HN : Hid (∀ y, y < t + 1 → Q5 F f y) := (fun y hy => by
                  by_cases e:y=t
                  · subst e;exact hiff.2 hv
                  · exact hY y (by omega):∀ y,_)
                have gv:¬ (100:Int) < DA t:=by omega
                clear HY hY hXf hfn kc hiff hv HRES HBOX HFN HBD HUD HP HLA
                generalize DA t=dv at *
                go_wp2_with fail
                go_roundw
                case rel=>exact ⟨t+1,by go_num,by omega,by trivial,HN⟩
                case measure=>simp [intOf];omega
              · have HAN0:Hid (An2 nf F 5 f t):=Or.inr (Or.inl ⟨rfl,HLA,hfn,h,fun g=>hv (hiff.1 g),hY,hXf⟩)
                have gv:(100:Int) < DA t:=by omega
                clear HY hY hXf hfn kc hiff hv HBOX HFN HBD HUD HP HLA
                generalize DA t=dv at *
                go_wp2_with fail
                have KCUR:=(uh HKC)
                have HRES1:=(uh HRES)
                refine (sp_fault 5 (f:Int) (t:Int) _).mono ?_
                rintro e w9 ⟨rfl,k9⟩
                have r0:w9.cell? ⟨w.heap.size+1,0,none⟩=some (.int .i64 0):=k9.cell (HRES1 _ KCUR).1
                have r1:w9.cell? ⟨w.heap.size+1,1,none⟩=some (.int .i64 0):=k9.cell (HRES1 _ KCUR).2.1
                have r2:w9.cell? ⟨w.heap.size+1,2,none⟩=some (.int .i64 0):=k9.cell (HRES1 _ KCUR).2.2.1
                have fr:∀ j,w9.frozen? ⟨w.heap.size+1,j,none⟩=false:=fun j=>(HRES1 w9 (KCUR.trans k9)).2.2.2.1 j
                have HKW:Hid (Kb 0 w w9∧w.heap.size+1 < w9.heap.size):=(⟨(HRES1 w9 (KCUR.trans k9)).2.2.2.2.1,(HRES1 w9 (KCUR.trans k9)).2.2.2.2.2⟩:_∧_)
                have HAN:Hid (An2 nf F 5 f t):=HAN0
                clear k9
                clear KCUR HRES1 HRES HKC HAN0 HK6 cp x1
                go_wp2_with fail
                refine bodyPost_ret (by simp [results,Tryz.results23,go_sem,r0,r1,r2];rfl) rfl ?_
                exact ⟨_,_,_,rfl,HAN,(((show Kb 0 w w9 from HKW.1).setCell ⟨w.heap.size+1,0,none⟩ (Or.inr (by show w.heap.size≤w.heap.size+1;omega)) _).setCell ⟨w.heap.size+1,1,none⟩ (Or.inr (by show w.heap.size≤w.heap.size+1;omega)) _).setCell ⟨w.heap.size+1,2,none⟩ (Or.inr (by show w.heap.size≤w.heap.size+1;omega)) _⟩
            · have hI3:¬ (t:Int) < ((F f).n:Int):=by omega
              have HN:Hid (Kb 0 w2 wr∧∀ g,g < f+1→∀ t,t < (F g).n→Q5 F g t):=(⟨kc,fun g hg y hy=>by
                by_cases e:g=f
                · subst e;exact hY y (by omega)
                · exact hXf g (by omega) y hy⟩:_∧_)
              clear HY hY hXf kc HP HUD HRES HBOX HFN HBD x1 HLA
              go_wp2_with fail
              go_roundw
              case rel=>exact ⟨f+1,by go_num,by omega,HN⟩
              case measure=>simp [intOf];omega
        · have hI:¬ (f:Int) < (nf:Int):=by omega
          have HAN0:Hid (An2 nf F 0 0 0):=Or.inr (Or.inr ⟨rfl,rfl,rfl,HLA,fun g hg t ht=>hX g (by omega) t ht⟩)
          obtain ⟨r0,r1,r2,fr,kk,hlt⟩:=(uh HRES) wr kw
          have HKW:Hid (Kb 0 w wr):=kk
          clear HX hX kw HRES HBOX HFN HBD HLA kk h hf HGR
          go_wp2_with fail
          refine bodyPost_ret (by simp [results,Tryz.results23,go_sem,r0,r1,r2];rfl) rfl ?_
          exact ⟨0,0,0,rfl,HAN0,(((uh HKW).setCell ⟨w.heap.size+1,0,none⟩ (Or.inr (by show w.heap.size≤w.heap.size+1;omega)) _).setCell ⟨w.heap.size+1,1,none⟩ (Or.inr (by show w.heap.size≤w.heap.size+1;omega)) _).setCell ⟨w.heap.size+1,2,none⟩ (Or.inr (by show w.heap.size≤w.heap.size+1;omega)) _⟩
end Go.Proofs.YtfpidccjcemcjaaGreat.Fo
