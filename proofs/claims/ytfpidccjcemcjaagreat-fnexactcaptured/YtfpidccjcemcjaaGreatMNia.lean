import Derived.Test.YtfpidccjcemcjaaGreatMZsq
import Derived.Test.YtfpidccjcemcjaaGreatMNha
set_option maxHeartbeats 16000000
namespace Go.Proofs.YtfpidccjcemcjaaGreat.Fo
open Go.ChangeShapes Go.WideShapes Go.ChangeAt Go.RowKit
set_option linter.unusedVariables false
set_option maxRecDepth 100000
def Lx (P:Nat→Nat→Prop) (L:Nat→Nat) (nf f n:Nat):Prop:=f < nf∧n < L f∧¬ P f n∧(∀ i,i < n→P f i)∧∀ g,g < f→∀ i,i < L g→P g i
def La (P:Nat→Nat→Prop) (L:Nat→Nat) (nf:Nat):Prop:=∀ f,f < nf→∀ i,i < L f→P f i
theorem Lx.uniq {P:Nat→Nat→Prop} {L:Nat→Nat} {nf f n g m:Nat} (h:Lx P L nf f n) (k:Lx P L nf g m):f=g∧n=m:=by
 obtain ⟨h1,h2,h3,h4,h5⟩:=h
 obtain ⟨k1,k2,k3,k4,k5⟩:=k
 have hf:f=g:=by
  rcases Nat.lt_trichotomy f g with q | q | q
  ·exact absurd (k5 f q n h2) h3
  ·exact q
  ·exact absurd (h5 g q m k2) k3
 subst hf
 refine ⟨rfl,?_⟩
 rcases Nat.lt_trichotomy n m with q | q | q
 ·exact absurd (k4 n q) h3
 ·exact q
 ·exact absurd (h4 m q) k3
structure Bd (nf:Nat) (F:Nat→Fd):Prop where
 hnf:nf≤1048576
 hsm:sm (fun i=>(F i).n) nf≤1048576
 hp:∀ f,f < nf→(F f).p≤1048576
 hu:∀ f,f < nf→(F f).u≤1048576
 hn:∀ f,f < nf→(F f).n≤1048576
 hN:∀ f,f < nf→∀ t,t < (F f).n→((F f).N t).p≤1048576∧((F f).N t).q≤1048576∧((F f).N t).a.g < 18446744073709551616
 hm:∀ f,f < nf→∀ t,t < (F f).n → -9223372036854775808≤((F f).N t).a.m∧((F f).N t).a.m≤9223372036854775807
def P2 (F:Nat→Fd) (f:Nat) (_:Nat):Prop:=Hd f (F f)
def P3 (F:Nat→Fd) (f n:Nat):Prop:=shP (F f).N n
def L1 (_:Nat):Nat:=1
def Ln (F:Nat→Fd) (f:Nat):Nat:=(F f).n
theorem sp_fault (c f n:Int) (w:World):Calls Tryz.prog 36 #[.int .i64 c,.int .i64 f,.int .i64 n] w fun e w'=>e = .returned (.agg #[.int .i64 c,.int .i64 f,.int .i64 n])∧Kb 0 w w':=by
 go_enter Tryz.func36,Tryz.ntmps36
 go_wp2_with fail
 refine bodyPost_ret (by simp [results,Tryz.results36,go_sem];rfl) rfl ?_
 exact ⟨rfl,by repeat (first | exact Kb.refl _ _ | apply Kb.alloc)⟩
def An1 (nf:Nat) (F:Nat→Fd) (c f n:Nat):Prop :=
 (c=1∧f=0∧n=0∧¬ Szu nf F)∨(c=2∧Szu nf F∧Lx (P2 F) L1 nf f n)∨(c=3∧Szu nf F∧La (P2 F) L1 nf∧Lx (P3 F) (Ln F) nf f n)∨(c=0∧f=0∧n=0∧Szu nf F∧La (P2 F) L1 nf∧La (P3 F) (Ln F) nf)
theorem sp_first {va : Value} {nf : Nat} {F : Nat → Fd} (w : World) (ha : RowF 0 w va nf F) (hb : Bd nf F) :
  Calls Tryz.prog 22 #[.agg #[va]] w fun e w'=>∃ c f n:Nat,e = .returned (.agg #[.int .i64 (c:Int),.int .i64 (f:Int),.int .i64 (n:Int)])∧An1 nf F c f n∧Kb 0 w w':=by
 have hrow:=fun W (k:Kb 0 w W)=>ha.keep k
 obtain ⟨pa,ca,rfl,ha2⟩:=ha
 have hnI:(nf:Int)≤1048576:=by have:=hb.hnf;omega
 obtain ⟨w2,hw2⟩:∃ w2,w2=(w.alloc (.cells #[.slice pa nf ca] 30)).alloc (.cells #[.int .i64 0,.int .i64 0,.int .i64 0] 39):=⟨_,rfl⟩
 have k2:Kb 0 w w2:=by rw [hw2];exact kb_alloc2 _ _ _ _
 have b0:w2.heap[w.heap.size]? = some (.cells #[.slice pa nf ca] 30 (0,0)):=by
  rw [hw2,(kb_alloc 0 _ _).block _ zq (by rw [World.size_alloc];omega)]
  exact alloc_new _ _ _
 have b1:w2.heap[w.heap.size+1]? = some (.cells #[.int .i64 0,.int .i64 0,.int .i64 0] 39 (0,0)):=by
  have e:(w.alloc (.cells #[.slice pa nf ca] 30)).heap.size=w.heap.size+1:=World.size_alloc _ _
  rw [hw2,← e]
  exact alloc_new _ _ _
 have sz2:w2.heap.size=w.heap.size+2:=by rw [hw2];simp
 have HRES:Hid (∀ W,Kb 0 w2 W→W.cell? ⟨w.heap.size+1,0,none⟩=some (.int .i64 0)∧W.cell? ⟨w.heap.size+1,1,none⟩=some (.int .i64 0)∧W.cell? ⟨w.heap.size+1,2,none⟩=some (.int .i64 0)∧(∀ j,W.frozen? ⟨w.heap.size+1,j,none⟩=false)∧Kb 0 w W∧w.heap.size+1 < W.heap.size):=(fun W k=>by
  have:=k.size
  exact ⟨k.cell (cell_of b1 rfl),k.cell (cell_of b1 rfl),k.cell (cell_of b1 rfl),fun j=>(k.frozen zq (by omega)).trans (frozen_of b1),k2.trans k,by omega⟩:∀ W,_)
 have HBOX:Hid (∀ W,Kb 0 w2 W→W.cell? ⟨w.heap.size,0,none⟩=some (.slice pa nf ca)):=(fun W k=>k.cell (cell_of b0 rfl):∀ W,_)
 have HFN:Hid (∀ W,Kb 0 w2 W→0 < nf→∃ a:Addr,pa=some a∧nf≤ca∧∀ i,i < nf→FnC 0 W (a.add (i*7)) (F i)):=(fun W k h0=>by
  obtain ⟨a,e1,e2,-,e3⟩:=ha2 h0
  exact ⟨a,e1,e2,fun i hi=>(e3 i hi).keep zq (k2.trans k)⟩:∀ W,_)
 have HHD:Hid (∀ W,Kb 0 w2 W→∀ f,f < nf→Calls Tryz.prog 37 #[.agg #[.slice pa nf ca],.int .i64 (f:Int)] W fun e w'=>e = .returned (.bool (dc (Hd f (F f))))∧Kb 0 W w'):=(fun W k f hf=>by
  obtain ⟨a,rfl,hca,-,hra⟩:=ha2 (by omega)
  obtain ⟨vv,vu,vn,cc,hvv,hvu,hvn⟩:=(hra f hf).keep zq (k2.trans k)
  have hvv2:=hvv.row
  obtain ⟨pv,cv,rfl,-⟩:=hvv
  obtain ⟨pu,cu,rfl,-⟩:=hvu
  obtain ⟨pn,cn,rfl,-⟩:=hvn
  exact sp_head W hf hb.hnf cc hvv2 (hb.hp f hf) (hb.hu f hf) (hb.hn f hf):∀ W,_)
 have HBD:Hid (Bd nf F):=hb
 have HW:Hid (w2=(w.alloc (.cells #[.slice pa nf ca] 30)).alloc (.cells #[.int .i64 0,.int .i64 0,.int .i64 0] 39)):=hw2
 clear ha2 hrow hb hw2 k2 b0 b1 sz2
 go_enter Tryz.func22,Tryz.ntmps22
 go_wp2_with fail
 rw [← (uh HW)]
 clear HW
 go_loopw [3,12] (fun s3 s12 wr=>∃ i:Nat,s12 = .int .i64 (i:Int)∧i≤nf∧s3 = .int .i64 (sm (fun i=>(F i).n) i:Int)∧Hid (Kb 0 w2 wr)) (fun _ s12 _=>nf - (intOf s12).toNat)
 case atStart=>exact ⟨0,rfl,Nat.zero_le _,rfl,Kb.refl _ _⟩
 case round =>
  obtain ⟨i,rfl,hi,rfl,HK⟩:=hrel
  rcases Nat.lt_or_ge i nf with h | h
  ·have hI:(i:Int) < (nf:Int):=by omega
   obtain ⟨a,rfl,hca,hra⟩:=(uh HFN) wr HK (by omega)
   obtain ⟨vv,vu,vn,⟨d0,d1,d2,d3,d4,d5,d6⟩,hvv,hvu,hvn⟩:=hra i h
   obtain ⟨pv,cv,rfl,-⟩:=hvv
   obtain ⟨pu,cu,rfl,-⟩:=hvu
   obtain ⟨pn,cn,rfl,-⟩:=hvn
   have hs:=(uh HBD).hsm
   have hmo:=sm_mono (fun i=>(F i).n) (show i+1≤nf from h)
   have hsu:sm (fun i=>(F i).n) (i+1)=sm (fun i=>(F i).n) i+(F i).n:=rfl
   obtain ⟨x,hx⟩:∃ x,x=sm (fun i=>(F i).n) i:=⟨_,rfl⟩
   have HX:Hid (sm (fun i=>(F i).n) (i+1)=x+(F i).n):=by rw [hx];exact hsu
   have hx1:(x:Int)≤1048576:=by omega
   have hx2:(x:Int)+((F i).n:Int)≤1048576:=by omega
   rw [← hx]
   have HK2:Hid (∀ o,Kb 0 w2 (wr.alloc o)):=(fun o=>(uh HK).alloc o:∀ o,_)
   clear hs hra hmo hsu hx HK HRES HBOX HFN HHD HBD
   go_wp2_with fail
   go_roundw
   case rel=>exact ⟨i+1,by go_num,by omega,by rw [show sm (fun i=>(F i).n) (i+1)=x+(F i).n from HX];go_num,(uh HK2) _⟩
   case measure=>simp [intOf];omega
  ·obtain rfl:i=nf:=by omega
   have KCUR:=(uh HK)
   have HRES1:=(uh HRES)
   have c2:wr.cell? ⟨w.heap.size,0,none⟩=some (.slice pa i ca):=(uh HBOX) wr HK
   have hI:¬ (i:Int) < (i:Int):=by omega
   obtain ⟨x,hx⟩:∃ x,x=sm (fun i=>(F i).n) i:=⟨_,rfl⟩
   rw [← hx]
   by_cases hsz:Szu i F
   case neg =>
    have HKC:Hid (Kb 0 w2 wr):=KCUR
    have HAN0:Hid (An1 i F 1 0 0):=Or.inl ⟨rfl,rfl,rfl,hsz⟩
    have hcase:i=0∨(0 < i∧300 < i)∨(0 < i∧i≤300∧3000 < x):=by
     unfold Szu at hsz
     rw [← hx] at hsz
     omega
    clear hsz hx HHD HFN HBD HBOX KCUR HRES1 HK h
    rcases hcase with h0 | ⟨h0,h3⟩ | ⟨h0,h3,h4⟩
    ·subst h0
     go_wp2_with fail
     have KCUR:=(uh HKC)
     have HRES1:=(uh HRES)
     refine (sp_fault 1 0 0 _).mono ?_
     rintro e w9 ⟨rfl,k9⟩
     have r0:w9.cell? ⟨w.heap.size+1,0,none⟩=some (.int .i64 0):=k9.cell (HRES1 _ KCUR).1
     have r1:w9.cell? ⟨w.heap.size+1,1,none⟩=some (.int .i64 0):=k9.cell (HRES1 _ KCUR).2.1
     have r2:w9.cell? ⟨w.heap.size+1,2,none⟩=some (.int .i64 0):=k9.cell (HRES1 _ KCUR).2.2.1
     have fr:∀ j,w9.frozen? ⟨w.heap.size+1,j,none⟩=false:=fun j=>(HRES1 w9 (KCUR.trans k9)).2.2.2.1 j
     have HKW:Hid (Kb 0 w w9∧w.heap.size+1 < w9.heap.size):=(⟨(HRES1 w9 (KCUR.trans k9)).2.2.2.2.1,(HRES1 w9 (KCUR.trans k9)).2.2.2.2.2⟩:_∧_)
     have HAN:Hid (An1 0 F 1 0 0):=HAN0
     clear k9
     clear KCUR HRES1 HRES HKC HAN0 c2
     go_wp2_with fail
     refine bodyPost_ret (by simp [results,Tryz.results22,go_sem,r0,r1,r2];rfl) rfl ?_
     exact ⟨_,_,_,rfl,HAN,(((show Kb 0 w w9 from HKW.1).setCell ⟨w.heap.size+1,0,none⟩ (Or.inr (by show w.heap.size≤w.heap.size+1;omega)) _).setCell ⟨w.heap.size+1,1,none⟩ (Or.inr (by show w.heap.size≤w.heap.size+1;omega)) _).setCell ⟨w.heap.size+1,2,none⟩ (Or.inr (by show w.heap.size≤w.heap.size+1;omega)) _⟩
    ·have g0:((i:Int) == 0)=false:=bne (by omega)
     have g3:(300:Int) < (i:Int):=by omega
     go_wp2_with fail
     have KCUR:=(uh HKC)
     have HRES1:=(uh HRES)
     refine (sp_fault 1 0 0 _).mono ?_
     rintro e w9 ⟨rfl,k9⟩
     have r0:w9.cell? ⟨w.heap.size+1,0,none⟩=some (.int .i64 0):=k9.cell (HRES1 _ KCUR).1
     have r1:w9.cell? ⟨w.heap.size+1,1,none⟩=some (.int .i64 0):=k9.cell (HRES1 _ KCUR).2.1
     have r2:w9.cell? ⟨w.heap.size+1,2,none⟩=some (.int .i64 0):=k9.cell (HRES1 _ KCUR).2.2.1
     have fr:∀ j,w9.frozen? ⟨w.heap.size+1,j,none⟩=false:=fun j=>(HRES1 w9 (KCUR.trans k9)).2.2.2.1 j
     have HKW:Hid (Kb 0 w w9∧w.heap.size+1 < w9.heap.size):=(⟨(HRES1 w9 (KCUR.trans k9)).2.2.2.2.1,(HRES1 w9 (KCUR.trans k9)).2.2.2.2.2⟩:_∧_)
     have HAN:Hid (An1 i F 1 0 0):=HAN0
     clear k9
     clear KCUR HRES1 HRES HKC HAN0 c2
     go_wp2_with fail
     refine bodyPost_ret (by simp [results,Tryz.results22,go_sem,r0,r1,r2];rfl) rfl ?_
     exact ⟨_,_,_,rfl,HAN,(((show Kb 0 w w9 from HKW.1).setCell ⟨w.heap.size+1,0,none⟩ (Or.inr (by show w.heap.size≤w.heap.size+1;omega)) _).setCell ⟨w.heap.size+1,1,none⟩ (Or.inr (by show w.heap.size≤w.heap.size+1;omega)) _).setCell ⟨w.heap.size+1,2,none⟩ (Or.inr (by show w.heap.size≤w.heap.size+1;omega)) _⟩
    ·have g0:((i:Int) == 0)=false:=bne (by omega)
     have g3:¬ (300:Int) < (i:Int):=by omega
     have g4:(3000:Int) < (x:Int):=by omega
     go_wp2_with fail
     have KCUR:=(uh HKC)
     have HRES1:=(uh HRES)
     refine (sp_fault 1 0 0 _).mono ?_
     rintro e w9 ⟨rfl,k9⟩
     have r0:w9.cell? ⟨w.heap.size+1,0,none⟩=some (.int .i64 0):=k9.cell (HRES1 _ KCUR).1
     have r1:w9.cell? ⟨w.heap.size+1,1,none⟩=some (.int .i64 0):=k9.cell (HRES1 _ KCUR).2.1
     have r2:w9.cell? ⟨w.heap.size+1,2,none⟩=some (.int .i64 0):=k9.cell (HRES1 _ KCUR).2.2.1
     have fr:∀ j,w9.frozen? ⟨w.heap.size+1,j,none⟩=false:=fun j=>(HRES1 w9 (KCUR.trans k9)).2.2.2.1 j
     have HKW:Hid (Kb 0 w w9∧w.heap.size+1 < w9.heap.size):=(⟨(HRES1 w9 (KCUR.trans k9)).2.2.2.2.1,(HRES1 w9 (KCUR.trans k9)).2.2.2.2.2⟩:_∧_)
     have HAN:Hid (An1 i F 1 0 0):=HAN0
     clear k9
     clear KCUR HRES1 HRES HKC HAN0 c2
     go_wp2_with fail
     refine bodyPost_ret (by simp [results,Tryz.results22,go_sem,r0,r1,r2];rfl) rfl ?_
     exact ⟨_,_,_,rfl,HAN,(((show Kb 0 w w9 from HKW.1).setCell ⟨w.heap.size+1,0,none⟩ (Or.inr (by show w.heap.size≤w.heap.size+1;omega)) _).setCell ⟨w.heap.size+1,1,none⟩ (Or.inr (by show w.heap.size≤w.heap.size+1;omega)) _).setCell ⟨w.heap.size+1,2,none⟩ (Or.inr (by show w.heap.size≤w.heap.size+1;omega)) _⟩
   have hsz2:=hsz
   unfold Szu at hsz2
   rw [← hx] at hsz2
   have g0:((i:Int) == 0)=false:=bne (by omega)
   have g3:¬ (300:Int) < (i:Int):=by omega
   have g4:¬ (3000:Int) < (x:Int):=by omega
   have HSZ:Hid (Szu i F):=hsz
   have HKC:Hid (Kb 0 w2 wr):=KCUR
   clear hsz hsz2 hx KCUR HRES1 HK h
   go_wp2_with fail
   clear c2 g0 g3 g4
   rename_i wq _ _
   go_loopw [40] (fun s40 wr=>∃ f:Nat,s40 = .int .i64 (f:Int)∧f≤i∧Hid (Kb 0 w2 wr∧∀ g,g < f→Hd g (F g))) (fun s40 _=>i - (intOf s40).toNat)
   case atStart=>exact ⟨0,rfl,Nat.zero_le _,(⟨HKC,fun g hg=>by omega⟩:_∧_)⟩
   case round =>
    clear HKC
    obtain ⟨f,rfl,hf,HX⟩:=hrel
    obtain ⟨kw,hX⟩:=(uh HX)
    have HRES1:=(uh HRES)
    have c2:wr.cell? ⟨w.heap.size,0,none⟩=some (.slice pa i ca):=(uh HBOX) wr kw
    rcases Nat.lt_or_ge f i with h | h
    ·have hI:(f:Int) < (i:Int):=by omega
     have HC:=(uh HHD) wr kw f h
     by_cases c:Hd f (F f)
     ·rw [dc_t c] at HC
      have HX2:Hid (∀ W,Kb 0 wr W→Kb 0 w2 W∧∀ g,g < f+1→Hd g (F g)):=(fun W k=>⟨kw.trans k,fun g hg=>by
       by_cases e:g=f
       ·subst e;exact c
       ·exact hX g (by omega)⟩:∀ W,_)
      clear HX hX c kw HRES1
      go_wp2_with fail
      refine HC.mono ?_
      rintro e w5 ⟨rfl,k5⟩
      have HX3:Hid (Kb 0 w2 w5∧∀ g,g < f+1→Hd g (F g)):=(uh HX2) w5 k5
      clear HC k5 HX2 c2
      go_wp2_with fail
      go_roundw
      case rel=>exact ⟨f+1,by go_num,by omega,HX3⟩
      case measure=>simp [intOf];omega
     ·rw [dc_f c] at HC
      have HAN0:Hid (An1 i F 2 f 0):=Or.inr (Or.inl ⟨rfl,HSZ,h,Nat.zero_lt_one,c,fun z hz=>by omega,fun g hg _ _=>hX g hg⟩)
      have HKC:Hid (Kb 0 w2 wr):=kw
      clear HX hX c kw HRES1
      go_wp2_with fail
      refine HC.mono ?_
      rintro e w5 ⟨rfl,k5⟩
      have HKC5:Hid (Kb 0 w2 w5):=(uh HKC).trans k5
      clear HC k5 c2 HKC
      go_wp2_with fail
      have KCUR:=(uh HKC5)
      have HRES1:=(uh HRES)
      refine (sp_fault 2 (f:Int) 0 _).mono ?_
      rintro e w9 ⟨rfl,k9⟩
      have r0:w9.cell? ⟨w.heap.size+1,0,none⟩=some (.int .i64 0):=k9.cell (HRES1 _ KCUR).1
      have r1:w9.cell? ⟨w.heap.size+1,1,none⟩=some (.int .i64 0):=k9.cell (HRES1 _ KCUR).2.1
      have r2:w9.cell? ⟨w.heap.size+1,2,none⟩=some (.int .i64 0):=k9.cell (HRES1 _ KCUR).2.2.1
      have fr:∀ j,w9.frozen? ⟨w.heap.size+1,j,none⟩=false:=fun j=>(HRES1 w9 (KCUR.trans k9)).2.2.2.1 j
      have HKW:Hid (Kb 0 w w9∧w.heap.size+1 < w9.heap.size):=(⟨(HRES1 w9 (KCUR.trans k9)).2.2.2.2.1,(HRES1 w9 (KCUR.trans k9)).2.2.2.2.2⟩:_∧_)
      have HAN:Hid (An1 i F 2 f 0):=HAN0
      clear k9
      clear KCUR HRES1 HRES HKC5 HAN0 HSZ HHD HFN HBOX HBD
      go_wp2_with fail
      refine bodyPost_ret (by simp [results,Tryz.results22,go_sem,r0,r1,r2];rfl) rfl ?_
      exact ⟨_,_,_,rfl,HAN,(((show Kb 0 w w9 from HKW.1).setCell ⟨w.heap.size+1,0,none⟩ (Or.inr (by show w.heap.size≤w.heap.size+1;omega)) _).setCell ⟨w.heap.size+1,1,none⟩ (Or.inr (by show w.heap.size≤w.heap.size+1;omega)) _).setCell ⟨w.heap.size+1,2,none⟩ (Or.inr (by show w.heap.size≤w.heap.size+1;omega)) _⟩
    ·have hI:¬ (f:Int) < (i:Int):=by omega
     have HLA:Hid (La (P2 F) L1 i):=(fun g hg _ _=>hX g (by omega):∀ g,_)
     have HKC:Hid (Kb 0 w2 wr):=kw
     clear HX hX kw HRES1 HHD
     go_wp2_with fail
     clear c2 hI h hf
     go_loopw [53] (fun s53 wr=>∃ f:Nat,s53 = .int .i64 (f:Int)∧f≤i∧Hid (Kb 0 w2 wr∧∀ g,g < f→∀ t,t < (F g).n→shP (F g).N t)) (fun s53 _=>i - (intOf s53).toNat)
     case atStart=>exact ⟨0,rfl,Nat.zero_le _,(⟨HKC,fun g hg=>by omega⟩:_∧_)⟩
     case round =>
      clear HKC
      obtain ⟨f,rfl,hf,HX⟩:=hrel
      obtain ⟨kw,hX⟩:=(uh HX)
      rcases Nat.lt_or_ge f i with h | h
      ·have hI:(f:Int) < (i:Int):=by omega
       have c2:wr.cell? ⟨w.heap.size,0,none⟩=some (.slice pa i ca):=(uh HBOX) wr kw
       obtain ⟨a,rfl,hca,hra⟩:=(uh HFN) wr kw (by omega)
       obtain ⟨vv,vu,vn,⟨-,-,-,-,-,-,d6⟩,-,-,hvn⟩:=hra f h
       have hb:=(uh HBD)
       have HSH:Hid (∀ W,Kb 0 wr W→∀ t,t < (F f).n→Calls Tryz.prog 38 #[vn,.int .i64 (t:Int)] W fun e w'=>e = .returned (.bool (dc (shM (F f).N t)))∧Kb 0 W w'):=(fun W k t ht=>sp_shape W (hvn.keep k) (hb.hn f h) (hb.hN f h) t ht:∀ W,_)
       obtain ⟨pn,cn,rfl,-⟩:=hvn
       have hnn:=hb.hn f h
       have hnI2:((F f).n:Int)≤1048576:=by omega
       have HEQ:Hid (∀ t,t < (F f).n→(∀ j,j < t→shP (F f).N j)→dc (shM (F f).N t)=dc (shP (F f).N t)):=(fun t ht hh=>dc_iff (sh_eq (hb.hm f h t ht) (hb.hN f h t ht).1 (fun j hj=>(hh j hj).1)):∀ t,_)
       have HCC:Hid (∀ W,Kb 0 wr W→W.cell? ⟨w.heap.size,0,none⟩=some (.slice (some a) i ca)∧W.cell? ⟨(a.add (f*7)).block,(a.add (f*7)).off+6,none⟩=some (.slice pn (F f).n cn)):=(fun W k=>⟨k.cell c2,k.cell d6⟩:∀ W,_)
       have HKF:Hid (Kb 0 w2 wr∧∀ g,g < f→∀ t,t < (F g).n→shP (F g).N t):=(⟨kw,hX⟩:_∧_)
       have HFI:Hid (f < i):=h
       clear HX hX kw hra hb hnn h
       go_wp2_with fail
       clear c2 d6
       obtain ⟨wo,hwo⟩:∃ wo,wo=wr:=⟨_,rfl⟩
       rw [← hwo] at HSH HCC HKF ⊢
       clear hwo
       go_loopw [63] (fun s63 wr=>∃ t:Nat,s63 = .int .i64 (t:Int)∧t≤(F f).n∧Hid (Kb 0 wo wr∧∀ y,y < t→shP (F f).N y)) (fun s63 _=>(F f).n - (intOf s63).toNat)
       case atStart=>exact ⟨0,rfl,Nat.zero_le _,(⟨Kb.refl _ _,fun y hy=>by omega⟩:_∧_)⟩
       case round =>
        obtain ⟨t,rfl,ht,HX⟩:=hrel
        obtain ⟨kx,hX⟩:=(uh HX)
        rcases Nat.lt_or_ge t (F f).n with h2 | h2
        ·have hI2:(t:Int) < ((F f).n:Int):=by omega
         obtain ⟨c2,d6⟩:=(uh HCC) wr kx
         have HC:=(uh HSH) wr kx t h2
         rw [(uh HEQ) t h2 hX] at HC
         by_cases c:shP (F f).N t
         ·rw [dc_t c] at HC
          have HX2:Hid (∀ W,Kb 0 wr W→Kb 0 wo W∧∀ y,y < t+1→shP (F f).N y):=(fun W k=>⟨kx.trans k,fun y hy=>by
           by_cases e:y=t
           ·subst e;exact c
           ·exact hX y (by omega)⟩:∀ W,_)
          clear HX hX c kx
          go_wp2_with fail
          refine HC.mono ?_
          rintro e w5 ⟨rfl,k5⟩
          have HX3:Hid (Kb 0 wo w5∧∀ y,y < t+1→shP (F f).N y):=(uh HX2) w5 k5
          clear HC k5 HX2 c2 d6
          go_wp2_with fail
          go_roundw
          case rel=>exact ⟨t+1,by go_num,by omega,HX3⟩
          case measure=>simp [intOf];omega
         ·rw [dc_f c] at HC
          obtain ⟨kf,hXf⟩:=(uh HKF)
          have HAN0:Hid (An1 i F 3 f t):=Or.inr (Or.inr (Or.inl ⟨rfl,HSZ,HLA,HFI,h2,c,hX,hXf⟩))
          have HKC:Hid (Kb 0 w2 wr):=kf.trans kx
          clear HX hX c kx kf hXf
          go_wp2_with fail
          refine HC.mono ?_
          rintro e w5 ⟨rfl,k5⟩
          have HKC5:Hid (Kb 0 w2 w5):=(uh HKC).trans k5
          clear HC k5 c2 d6 HKC
          go_wp2_with fail
          have KCUR:=(uh HKC5)
          have HRES1:=(uh HRES)
          refine (sp_fault 3 (f:Int) (t:Int) _).mono ?_
          rintro e w9 ⟨rfl,k9⟩
          have r0:w9.cell? ⟨w.heap.size+1,0,none⟩=some (.int .i64 0):=k9.cell (HRES1 _ KCUR).1
          have r1:w9.cell? ⟨w.heap.size+1,1,none⟩=some (.int .i64 0):=k9.cell (HRES1 _ KCUR).2.1
          have r2:w9.cell? ⟨w.heap.size+1,2,none⟩=some (.int .i64 0):=k9.cell (HRES1 _ KCUR).2.2.1
          have fr:∀ j,w9.frozen? ⟨w.heap.size+1,j,none⟩=false:=fun j=>(HRES1 w9 (KCUR.trans k9)).2.2.2.1 j
          have HKW:Hid (Kb 0 w w9∧w.heap.size+1 < w9.heap.size):=(⟨(HRES1 w9 (KCUR.trans k9)).2.2.2.2.1,(HRES1 w9 (KCUR.trans k9)).2.2.2.2.2⟩:_∧_)
          have HAN:Hid (An1 i F 3 f t):=HAN0
          clear k9
          clear KCUR HRES1 HRES HKC5 HAN0 HSZ HFN HBOX HBD HSH HEQ HCC HKF HLA
          go_wp2_with fail
          refine bodyPost_ret (by simp [results,Tryz.results22,go_sem,r0,r1,r2];rfl) rfl ?_
          exact ⟨_,_,_,rfl,HAN,(((show Kb 0 w w9 from HKW.1).setCell ⟨w.heap.size+1,0,none⟩ (Or.inr (by show w.heap.size≤w.heap.size+1;omega)) _).setCell ⟨w.heap.size+1,1,none⟩ (Or.inr (by show w.heap.size≤w.heap.size+1;omega)) _).setCell ⟨w.heap.size+1,2,none⟩ (Or.inr (by show w.heap.size≤w.heap.size+1;omega)) _⟩
        ·have hI2:¬ (t:Int) < ((F f).n:Int):=by omega
         obtain ⟨kf,hXf⟩:=(uh HKF)
         have HN:Hid (Kb 0 w2 wr∧∀ g,g < f+1→∀ t,t < (F g).n→shP (F g).N t):=(⟨kf.trans kx,fun g hg y hy=>by
          by_cases e:g=f
          ·subst e;exact hX y (by omega)
          ·exact hXf g (by omega) y hy⟩:_∧_)
         have hfI:f < i:=HFI
         clear HX hX kx kf hXf HSH HEQ HCC HKF HFI
         go_wp2_with fail
         go_roundw
         case rel=>exact ⟨f+1,by go_num,by omega,HN⟩
         case measure=>simp [intOf];omega
      ·have hI:¬ (f:Int) < (i:Int):=by omega
       have HAN0:Hid (An1 i F 0 0 0):=Or.inr (Or.inr (Or.inr ⟨rfl,rfl,rfl,HSZ,HLA,fun g hg t ht=>hX g (by omega) t ht⟩))
       obtain ⟨r0,r1,r2,fr,kk,hlt⟩:=(uh HRES) wr kw
       have HKW:Hid (Kb 0 w wr):=kk
       clear HX hX kw HRES HBOX HFN HBD HSZ HLA kk h hf
       go_wp2_with fail
       refine bodyPost_ret (by simp [results,Tryz.results22,go_sem,r0,r1,r2];rfl) rfl ?_
       exact ⟨0,0,0,rfl,HAN0,(((uh HKW).setCell ⟨w.heap.size+1,0,none⟩ (Or.inr (by show w.heap.size≤w.heap.size+1;omega)) _).setCell ⟨w.heap.size+1,1,none⟩ (Or.inr (by show w.heap.size≤w.heap.size+1;omega)) _).setCell ⟨w.heap.size+1,2,none⟩ (Or.inr (by show w.heap.size≤w.heap.size+1;omega)) _⟩
end Go.Proofs.YtfpidccjcemcjaaGreat.Fo
