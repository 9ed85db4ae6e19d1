import Derived.Test.YtfpidccjcemcjaaGreatMZsq
import Derived.Test.YtfpidccjcemcjaaGreatMNdr
set_option maxHeartbeats 16000000
namespace Go.Proofs.YtfpidccjcemcjaaGreat.Fo
open Go.ChangeShapes Go.WideShapes Go.ChangeAt Go.RowKit
set_option linter.unusedVariables false
set_option maxRecDepth 100000
theorem im_ixv {v : Value} {p : Nat} {A : Nat → Int} (x : Int) (w : World) (hr : RowV w v p (fun i => .int .i64 (A i))) (hp : p ≤ 1048576) :
    Calls Tryz.prog 111 #[v,.int .i64 x] w fun e w'=>∃ r:Int,e = .returned (.int .i64 r)∧Fb (fun j=>¬ x=A j) p r∧w'=w:=by
  obtain ⟨pa,ca,rfl,hr2⟩:=hr
  have hpI:(p:Int)≤1048576:=by omega
  have HR:Hid (0 < p→∃ a:Addr,pa=some a∧p≤ca∧∀ i,i < p→w.cell? (a.add i)=some (.int .i64 (A i))):=hr2
  clear hr2 hp
  go_enter Tryz.func111,Tryz.ntmps111
  go_wp2_with fail
  go_loopw [8] (fun s8 wr=>∃ i:Nat,s8 = .int .i64 (i:Int)∧i≤p∧wr=w∧Hid (∀ j,j < i→¬ x=A j)) (fun s8 _=>p - (intOf s8).toNat)
  case atStart=>exact ⟨0,rfl,Nat.zero_le _,rfl,(fun j hj=>by omega:∀ j,_)⟩
  case round =>
    obtain ⟨i,rfl,hin,rfl,HI⟩:=hrel
    have ha:=(uh HI)
    rcases Nat.lt_or_ge i p with hi | hi
    · have hiI:(i:Int) < (p:Int):=by omega
      obtain ⟨a,rfl,hca,hra⟩:=(uh HR) (by omega)
      have qa:wr.cell? (a.add i)=some (.int .i64 (A i)):=hra i hi
      by_cases hn:x=A i
      · have HX:Hid (Fb (fun j=>¬ x=A j) p (i:Int)):=Or.inr ⟨i,rfl,hi,fun g=>g hn,ha⟩
        have g:=beq1 hn
        clear HI ha hra hn
        generalize A i=y at *
        go_wp2_with fail
        go_ret
        exact ⟨(i:Int),rfl,HX,rfl⟩
      · have HX : Hid (∀ j, j < i + 1 → ¬ x = A j) := (fun j hj => by
          by_cases e:j=i
          · rw [e];exact hn
          · exact ha j (by omega):∀ j,_)
        have g:=bne hn
        clear HI ha hra hn
        generalize A i=y at *
        go_wp2_with fail
        go_roundw
        case rel=>exact ⟨i+1,by go_num,by omega,by trivial,HX⟩
        case measure=>simp [intOf];omega
    · obtain rfl:i=p:=by omega
      have HX:Hid (Fb (fun j=>¬ x=A j) i (-1)):=Or.inl ⟨rfl,ha⟩
      clear HR ha HI
      go_wp2_with fail
      go_ret
      exact ⟨-1,rfl,HX,rfl⟩
theorem im_ctv {v : Value} {p : Nat} {A : Nat → Int} (x : Int) (w : World) (hr : RowV w v p (fun i => .int .i64 (A i))) (hp : p ≤ 1048576) :
  Calls Tryz.prog 109 #[v,.int .i64 x] w fun e w'=>e = .returned (.bool (dc (∃ j,j < p∧x=A j)))∧w'=w:=by
 have h1:=im_ixv x w hr hp
 obtain ⟨pa,ca,rfl,hr2⟩:=hr
 clear hr2 hp
 obtain ⟨z,hz⟩:∃ z,z=dc (∃ j,j < p∧x=A j):=⟨_,rfl⟩
 have HZ:Hid (z=dc (∃ j,j < p∧x=A j)):=hz
 rw [← hz]
 clear hz
 go_enter Tryz.func109,Tryz.ntmps109
 go_wp2_with fail
 refine h1.mono ?_
 rintro e w1 ⟨r,rfl,hR,rfl⟩
 clear h1
 rcases hR with ⟨rfl,hn⟩ | ⟨j,rfl,j1,j2,j3⟩
 ·have hX:z=false:=(uh HZ).trans (dc_f (fun ⟨j,hj,e⟩=>hn j hj e))
  subst hX
  clear hn HZ
  go_wp2_with fail
  go_ret
  exact ⟨rfl,rfl⟩
 ·have hX:z=true:=(uh HZ).trans (dc_t ⟨j,j1,Classical.not_not.1 j2⟩)
  subst hX
  have gj:(0:Int)≤(j:Int):=by omega
  clear j1 j2 j3 HZ
  go_wp2_with fail
  go_ret
  exact ⟨by first | rfl | simp [*],rfl⟩
abbrev Vs:=Nat × (Nat→Int)
def Sco (W:World):Value→List Vs→Prop
 | p,[]=>p = .pointer none
 | p,v :: r=>∃ B q s,p = .pointer (some ⟨B,0,none⟩)∧W.cell? ⟨B,0,none⟩=some q∧W.cell? ⟨B,1,none⟩=some s∧RowV W s v.1 (fun i=>.int .i64 (v.2 i))∧v.1≤1048576∧Sco W q r
theorem Sco.keep {W W':World} (k:Kb 0 W W'):∀ (l:List Vs) {p:Value},Sco W p l→Sco W' p l
 | [],_,h=>h
 | v :: r,p,⟨B,q,s,h1,h2,h3,h4,h5,h6⟩=>⟨B,q,s,h1,k.cell h2,k.cell h3,(h4.rowB.keep k).row,h5,Sco.keep k r h6⟩
def inS (x:Int) (l:List Vs):Prop:=∃ v,v ∈ l∧∃ j,j < v.1∧x=v.2 j
def Szu (nf:Nat) (F:Nat→Fd):Prop:=0 < nf∧nf≤300∧sm (fun i=>(F i).n) nf≤3000
theorem im_size {va : Value} {nf : Nat} {F : Nat → Fd} (w : World) (ha : RowF 0 w va nf F) (hnf : nf ≤ 1048576) (hs : sm (fun i => (F i).n) nf ≤ 1048576) :
  Calls Tryz.prog 59 #[.agg #[va]] w fun e w'=>e = .returned (.bool (dc (Szu nf F)))∧Kb 0 w w':=by
 obtain ⟨pa,ca,rfl,ha2⟩:=ha
 obtain ⟨R,hR⟩:∃ R,R=dc (Szu nf F):=⟨_,rfl⟩
 rw [← hR]
 have HR:Hid (R=dc (Szu nf F)):=hR
 have hnI:(nf:Int)≤1048576:=by omega
 obtain ⟨w1,hw1⟩:∃ w1,w1=w.alloc (.cells #[.slice pa nf ca] 30):=⟨_,rfl⟩
 have hk1:Kb 0 w w1:=by rw [hw1];exact kb_alloc _ _ _
 have c1:w1.cell? ⟨w.heap.size,0,none⟩=some (.slice pa nf ca):=by rw [hw1];exact cell_of (alloc_new _ _ _) rfl
 have HA:Hid ((0 < nf→∃ a:Addr,pa=some a∧nf≤ca∧0≤a.block∧∀ i,i < nf→FnC 0 w (a.add (i*7)) (F i))∧Kb 0 w w1∧sm (fun i=>(F i).n) nf≤1048576):=(⟨ha2,hk1,hs⟩:_∧_)
 have HC:Hid (w1.cell? ⟨w.heap.size,0,none⟩=some (.slice pa nf ca)):=c1
 have HW:Hid (w1=w.alloc (.cells #[.slice pa nf ca] 30)):=hw1
 clear ha2 hnf hR hs hk1 hw1
 go_enter Tryz.func59,Tryz.ntmps59
 go_wp2_with fail
 rw [← (uh HW)]
 clear HW c1
 go_loopw [3,9] (fun s3 s9 wr=>∃ i:Nat,s9 = .int .i64 (i:Int)∧i≤nf∧s3 = .int .i64 (sm (fun i=>(F i).n) i:Int)∧Hid (Kb 0 w1 wr)) (fun _ s9 _=>nf - (intOf s9).toNat)
 case atStart=>exact ⟨0,rfl,Nat.zero_le _,rfl,Kb.refl _ _⟩
 case round =>
  obtain ⟨i,rfl,hi,rfl,HK⟩:=hrel
  obtain ⟨ha2,hk1,hs⟩:=(uh HA)
  rcases Nat.lt_or_ge i nf with h | h
  ·have hI:(i:Int) < (nf:Int):=by omega
   obtain ⟨a,rfl,hca,-,hra⟩:=ha2 (by omega)
   obtain ⟨vv,vu,vn,⟨d0,d1,d2,d3,d4,d5,d6⟩,hvv,hvu,hvn⟩:=(hra i h).keep zq (hk1.trans HK)
   obtain ⟨pv,cv,rfl,-⟩:=hvv
   obtain ⟨pu,cu,rfl,-⟩:=hvu
   obtain ⟨pn,cn,rfl,-⟩:=hvn
   have hmo:=sm_mono (fun i=>(F i).n) (show i+1≤nf from h)
   have hsu:sm (fun i=>(F i).n) (i+1)=sm (fun i=>(F i).n) i+(F i).n:=rfl
   obtain ⟨x,hx⟩:∃ x,x=sm (fun i=>(F i).n) i:=⟨_,rfl⟩
   have HX:Hid (sm (fun i=>(F i).n) (i+1)=x+(F i).n):=by rw [hx];exact hsu
   have hx1:(x:Int)≤1048576:=by omega
   have hx2:(x:Int)+((F i).n:Int)≤1048576:=by omega
   rw [← hx]
   have HK2:Hid (∀ o,Kb 0 w1 (wr.alloc o)):=(fun o=>(uh HK).alloc o:∀ o,_)
   clear ha2 hk1 hs hra hmo hsu hx HR HK
   go_wp2_with fail
   go_roundw
   case rel=>exact ⟨i+1,by go_num,by omega,by rw [show sm (fun i=>(F i).n) (i+1)=x+(F i).n from HX];go_num,(uh HK2) _⟩
   case measure=>simp [intOf];omega
  ·obtain rfl:i=nf:=by omega
   have c2:wr.cell? ⟨w.heap.size,0,none⟩=some (.slice pa i ca):=(uh HK).cell HC
   have HKW:Hid (Kb 0 w wr):=hk1.trans HK
   have hI:¬ (i:Int) < (i:Int):=by omega
   obtain ⟨x,hx⟩:∃ x,x=sm (fun i=>(F i).n) i:=⟨_,rfl⟩
   have hR2:R=dc (0 < i∧i≤300∧x≤3000):=by rw [hx];exact (uh HR)
   rw [← hx]
   clear ha2 hk1 hs HK HR hx h HA
   by_cases h0 : 0 < i
   ·have g0:(0:Int) < (i:Int):=by omega
    by_cases h3:i≤300
    ·have g3:(i:Int)≤300:=by omega
     by_cases hx3:x≤3000
     ·have gx:(x:Int)≤3000:=by omega
      rw [dc_t ⟨h0,h3,hx3⟩] at hR2
      subst hR2
      go_wp2_with fail
      go_ret
      exact ⟨by first | rfl | simp [*],HKW⟩
     ·have gx:¬ (x:Int)≤3000:=by omega
      rw [dc_f (fun g=>hx3 g.2.2)] at hR2
      subst hR2
      go_wp2_with fail
      go_ret
      exact ⟨by first | rfl | simp [*],HKW⟩
    ·have g3:¬ (i:Int)≤300:=by omega
     rw [dc_f (fun g=>h3 g.2.1)] at hR2
     subst hR2
     go_wp2_with fail
     go_ret
     exact ⟨by first | rfl | simp [*],HKW⟩
   ·obtain rfl:i=0:=by omega
    rw [dc_f (fun g=>h0 g.1)] at hR2
    subst hR2
    go_wp2_with fail
    go_ret
    exact ⟨by first | rfl | simp [*],HKW⟩
theorem sp_name (x:ByteArray) (l:Nat) (w:World):Calls Tryz.prog 52 #[.string x,.int .i64 (l:Int)] w fun e w'=>e = .returned (.bool (dc (l≤x.size∧x.size≤40)))∧w'=w:=by
 by_cases h1:l≤x.size
 ·have g1:(l:Int)≤(x.size:Int):=by omega
  by_cases h2:x.size≤40
  ·have g2:(x.size:Int)≤40:=by omega
   rw [dc_t ⟨h1,h2⟩]
   go_enter Tryz.func52,Tryz.ntmps52
   go_wp2_with fail
   go_ret
   exact ⟨rfl,rfl⟩
  ·have g2:¬ (x.size:Int)≤40:=by omega
   rw [dc_f (fun g=>h2 g.2)]
   go_enter Tryz.func52,Tryz.ntmps52
   go_wp2_with fail
   go_ret
   exact ⟨rfl,rfl⟩
 ·have g1:¬ (l:Int)≤(x.size:Int):=by omega
  rw [dc_f (fun g=>h1 g.1)]
  go_enter Tryz.func52,Tryz.ntmps52
  go_wp2_with fail
  go_ret
  exact ⟨rfl,rfl⟩
theorem sp_head {A : Addr} {nf ca f : Nat} {d : Fd} {pv pu pn : Option Addr} {cv cu cn : Nat} (w : World) (hf : f < nf) (hnf : nf ≤ 1048576) (hcel : CelF w (A.add (f * 7)) d (.slice pv d.p cv) (.slice pu d.u cu) (.slice pn d.n cn))
  (hvr:RowV w (.slice pv d.p cv) d.p (fun i=>.string (d.V i))) (hp:d.p≤1048576) (hu:d.u≤1048576) (hn:d.n≤1048576) :
  Calls Tryz.prog 37 #[.agg #[.slice (some A) nf ca],.int .i64 (f:Int)] w fun e w'=>e = .returned (.bool (dc (Hd f d)))∧Kb 0 w w':=by
 obtain ⟨d0,d1,d2,d3,d4,d5,d6⟩:=hcel.keep zq (kb_alloc 0 w (.cells #[.slice (some A) nf ca] 30))
 have hfI:(f:Int) < (nf:Int):=by omega
 have hnfI:(nf:Int)≤1048576:=by omega
 have hpI:(d.p:Int)≤1048576:=by omega
 have huI:(d.u:Int)≤1048576:=by omega
 have hnI:(d.n:Int)≤1048576:=by omega
 have HV:Hid (RowB 0 ((w.alloc (.cells #[.slice (some A) nf ca] 30)).alloc (.cells #[.string d.x,.int .i64 d.l,.int .i64 d.m,.bool d.r,.slice pv d.p cv,.slice pu d.u cu,.slice pn d.n cn] 48)) (.slice pv d.p cv) d.p (fun i=>.string (d.V i))):=hvr.rowB.keep (kb_alloc2 _ _ _ _)
 have QN:=fun W=>sp_name d.x 0 W
 clear hvr hp hu hn hf hnf hcel
 unfold Hd
 by_cases h0 : 0 < d.n
 ·have g0:((d.n:Int) == 0)=false:=bne (by omega)
  by_cases h1:d.p≤200
  ·have g1:¬ (200:Int) < (d.p:Int):=by omega
   by_cases h2:d.u≤200
   ·have g2:¬ (200:Int) < (d.u:Int):=by omega
    by_cases h3 : 0≤d.m
    ·have g3:¬ d.m < 0:=by omega
     by_cases h4:d.m≤(d.p:Int)
     ·have g4:¬ (d.p:Int) < d.m:=by omega
      by_cases h5 : 0≤d.l
      ·have g5:¬ d.l < 0:=by omega
       by_cases h6:d.l≤100000
       ·have g6:¬ (100000:Int) < d.l:=by omega
        by_cases h7:d.x.size≤40
        ·rw [dc_t (show 0≤d.x.size∧d.x.size≤40 from ⟨Nat.zero_le _,h7⟩)] at QN
         by_cases h9:f=0
         ·have g9:((f:Int) == 0)=true:=beq1 (by omega)
          by_cases ha:d.m=0
          ·have ga:decide ((0:Int) < d.m)=false:=decide_eq_false (by omega)
           by_cases hc:d.u=0
           ·have gc:decide (0 < d.u)=false:=decide_eq_false (by omega)
            obtain ⟨R,hR⟩:∃ R,R=dc (∀ j,j < d.p→vnm (d.V j)):=⟨_,rfl⟩
            rw [dc_iff (show _↔(∀ j,j < d.p→vnm (d.V j)) from ⟨fun g=>g.2.2.2.2.2.2.2.2.1,fun g=>⟨h0,h1,h2,h3,h4,h5,h6,h7,g,fun _=>⟨ha,hc⟩⟩⟩),← hR]
            have HR:Hid (R=dc (∀ j,j < d.p→vnm (d.V j))):=hR
            clear hR
            try clear h9
            try clear ha
            try clear hc
            go_enter Tryz.func37,Tryz.ntmps37
            go_wp2_with (first | (go_at_call 52;refine (QN _).mono ?_;rintro e w1 ⟨rfl,rfl⟩))
            go_loopw [74] (fun sl wr=>∃ i:Nat,sl = .int .i64 (i:Int)∧i≤d.p∧wr=((w.alloc (.cells #[.slice (some A) nf ca] 30)).alloc (.cells #[.string d.x,.int .i64 d.l,.int .i64 d.m,.bool d.r,.slice pv d.p cv,.slice pu d.u cu,.slice pn d.n cn] 48))∧Hid (∀ y,y < i→vnm (d.V y))) (fun sl _=>d.p - (intOf sl).toNat)
            case atStart=>exact ⟨0,rfl,Nat.zero_le _,rfl,(fun y h=>by omega:∀ y,_)⟩
            case round =>
             obtain ⟨i,rfl,hi,rfl,HX⟩:=hrel
             try clear gc
             try clear ga
             try clear g9
             clear g0 g1 g2 g3 g4 g5 g6
             have hX:=(uh HX)
             rcases Nat.lt_or_ge i d.p with h | h
             ·have hI:(i:Int) < (d.p:Int):=by omega
              obtain ⟨pv',cv',e1,hrow2⟩:=(uh HV)
              obtain ⟨rfl,-,rfl⟩:pv=pv'∧d.p=d.p∧cv=cv':=by simpa using e1
              obtain ⟨b,rfl,hcb,-,hrb⟩:=hrow2 (by omega)
              have qa:((w.alloc (.cells #[.slice (some A) nf ca] 30)).alloc (.cells #[.string d.x,.int .i64 d.l,.int .i64 d.m,.bool d.r,.slice (some b) d.p cv,.slice pu d.u cu,.slice pn d.n cn] 48)).cell? (b.add i)=some (.string (d.V i)):=hrb i h
              have hnm:=fun W=>sp_name (d.V i) 1 W
              by_cases c:vnm (d.V i)
              ·rw [dc_t (show 1≤(d.V i).size∧(d.V i).size≤40 from c)] at hnm
               have HX2:Hid (∀ y,y < i+1→vnm (d.V y)):=(fun y h2=>by
                by_cases e:y=i
                ·subst e;exact c
                ·exact hX y (by omega):∀ y,_)
               clear HX hX c hrow2 hrb e1 HR HV
               go_wp2_with fail
               refine (hnm _).mono ?_
               rintro e w1 ⟨rfl,rfl⟩
               go_wp2_with fail
               go_roundw
               case rel=>exact ⟨i+1,by go_num,by omega,by trivial,HX2⟩
               case measure=>simp [intOf];omega
              ·rw [dc_f (show ¬ (1≤(d.V i).size∧(d.V i).size≤40) from c)] at hnm
               have hF:R=false:=by
                rw [show R=dc (∀ j,j < d.p→vnm (d.V j)) from HR]
                exact dc_f (fun g=>c (g i h))
               subst hF
               clear HX hX c hrow2 hrb e1 HR HV
               go_wp2_with fail
               refine (hnm _).mono ?_
               rintro e w1 ⟨rfl,rfl⟩
               go_wp2_with fail
               go_ret
               exact ⟨rfl,kb_alloc2 _ _ _ _⟩
             ·have hI:¬ (i:Int) < (d.p:Int):=by omega
              have hF:R=true:=by
               rw [show R=dc (∀ j,j < d.p→vnm (d.V j)) from HR]
               exact dc_t (fun y hy=>hX y (by omega))
              subst hF
              clear HX hX HR HV
              go_wp2_with fail
              go_ret
              exact ⟨rfl,kb_alloc2 _ _ _ _⟩
           ·have gc:(0:Int) < (d.u:Int):=by omega
            rw [dc_f (fun g=>(hc) ((g.2.2.2.2.2.2.2.2.2 h9).2))]
            clear HV
            try clear h9
            try clear ha
            try clear hc
            go_enter Tryz.func37,Tryz.ntmps37
            go_wp2_with (first | (go_at_call 52;refine (QN _).mono ?_;rintro e w1 ⟨rfl,rfl⟩))
            go_ret
            exact ⟨rfl,kb_alloc2 _ _ _ _⟩
          ·have ga:(0:Int) < d.m:=by omega
           rw [dc_f (fun g=>(ha) ((g.2.2.2.2.2.2.2.2.2 h9).1))]
           clear HV
           try clear h9
           try clear ha
           try clear hc
           go_enter Tryz.func37,Tryz.ntmps37
           go_wp2_with (first | (go_at_call 52;refine (QN _).mono ?_;rintro e w1 ⟨rfl,rfl⟩))
           go_ret
           exact ⟨rfl,kb_alloc2 _ _ _ _⟩
         ·have g9:((f:Int) == 0)=false:=bne (by omega)
          obtain ⟨R,hR⟩:∃ R,R=dc (∀ j,j < d.p→vnm (d.V j)):=⟨_,rfl⟩
          rw [dc_iff (show _↔(∀ j,j < d.p→vnm (d.V j)) from ⟨fun g=>g.2.2.2.2.2.2.2.2.1,fun g=>⟨h0,h1,h2,h3,h4,h5,h6,h7,g,fun e=>absurd e h9⟩⟩),← hR]
          have HR:Hid (R=dc (∀ j,j < d.p→vnm (d.V j))):=hR
          clear hR
          try clear h9
          try clear ha
          try clear hc
          go_enter Tryz.func37,Tryz.ntmps37
          go_wp2_with (first | (go_at_call 52;refine (QN _).mono ?_;rintro e w1 ⟨rfl,rfl⟩))
          go_loopw [74] (fun sl wr=>∃ i:Nat,sl = .int .i64 (i:Int)∧i≤d.p∧wr=((w.alloc (.cells #[.slice (some A) nf ca] 30)).alloc (.cells #[.string d.x,.int .i64 d.l,.int .i64 d.m,.bool d.r,.slice pv d.p cv,.slice pu d.u cu,.slice pn d.n cn] 48))∧Hid (∀ y,y < i→vnm (d.V y))) (fun sl _=>d.p - (intOf sl).toNat)
          case atStart=>exact ⟨0,rfl,Nat.zero_le _,rfl,(fun y h=>by omega:∀ y,_)⟩
          case round =>
           obtain ⟨i,rfl,hi,rfl,HX⟩:=hrel
           try clear gc
           try clear ga
           try clear g9
           clear g0 g1 g2 g3 g4 g5 g6
           have hX:=(uh HX)
           rcases Nat.lt_or_ge i d.p with h | h
           ·have hI:(i:Int) < (d.p:Int):=by omega
            obtain ⟨pv',cv',e1,hrow2⟩:=(uh HV)
            obtain ⟨rfl,-,rfl⟩:pv=pv'∧d.p=d.p∧cv=cv':=by simpa using e1
            obtain ⟨b,rfl,hcb,-,hrb⟩:=hrow2 (by omega)
            have qa:((w.alloc (.cells #[.slice (some A) nf ca] 30)).alloc (.cells #[.string d.x,.int .i64 d.l,.int .i64 d.m,.bool d.r,.slice (some b) d.p cv,.slice pu d.u cu,.slice pn d.n cn] 48)).cell? (b.add i)=some (.string (d.V i)):=hrb i h
            have hnm:=fun W=>sp_name (d.V i) 1 W
            by_cases c:vnm (d.V i)
            ·rw [dc_t (show 1≤(d.V i).size∧(d.V i).size≤40 from c)] at hnm
             have HX2:Hid (∀ y,y < i+1→vnm (d.V y)):=(fun y h2=>by
              by_cases e:y=i
              ·subst e;exact c
              ·exact hX y (by omega):∀ y,_)
             clear HX hX c hrow2 hrb e1 HR HV
             go_wp2_with fail
             refine (hnm _).mono ?_
             rintro e w1 ⟨rfl,rfl⟩
             go_wp2_with fail
             go_roundw
             case rel=>exact ⟨i+1,by go_num,by omega,by trivial,HX2⟩
             case measure=>simp [intOf];omega
            ·rw [dc_f (show ¬ (1≤(d.V i).size∧(d.V i).size≤40) from c)] at hnm
             have hF:R=false:=by
              rw [show R=dc (∀ j,j < d.p→vnm (d.V j)) from HR]
              exact dc_f (fun g=>c (g i h))
             subst hF
             clear HX hX c hrow2 hrb e1 HR HV
             go_wp2_with fail
             refine (hnm _).mono ?_
             rintro e w1 ⟨rfl,rfl⟩
             go_wp2_with fail
             go_ret
             exact ⟨rfl,kb_alloc2 _ _ _ _⟩
           ·have hI:¬ (i:Int) < (d.p:Int):=by omega
            have hF:R=true:=by
             rw [show R=dc (∀ j,j < d.p→vnm (d.V j)) from HR]
             exact dc_t (fun y hy=>hX y (by omega))
            subst hF
            clear HX hX HR HV
            go_wp2_with fail
            go_ret
            exact ⟨rfl,kb_alloc2 _ _ _ _⟩
        ·rw [dc_f (show ¬ (0≤d.x.size∧d.x.size≤40) from fun z=>h7 z.2)] at QN
         rw [dc_f (fun g=>(h7) (g.2.2.2.2.2.2.2.1))]
         clear HV
         try clear h9
         try clear ha
         try clear hc
         go_enter Tryz.func37,Tryz.ntmps37
         go_wp2_with (first | (go_at_call 52;refine (QN _).mono ?_;rintro e w1 ⟨rfl,rfl⟩))
         go_ret
         exact ⟨rfl,kb_alloc2 _ _ _ _⟩
       ·have g6:(100000:Int) < d.l:=by omega
        rw [dc_f (fun g=>(h6) (g.2.2.2.2.2.2.1))]
        clear HV
        try clear h9
        try clear ha
        try clear hc
        go_enter Tryz.func37,Tryz.ntmps37
        go_wp2_with (first | (go_at_call 52;refine (QN _).mono ?_;rintro e w1 ⟨rfl,rfl⟩))
        go_ret
        exact ⟨rfl,kb_alloc2 _ _ _ _⟩
      ·have g5:d.l < 0:=by omega
       rw [dc_f (fun g=>(h5) (g.2.2.2.2.2.1))]
       clear HV
       try clear h9
       try clear ha
       try clear hc
       go_enter Tryz.func37,Tryz.ntmps37
       go_wp2_with (first | (go_at_call 52;refine (QN _).mono ?_;rintro e w1 ⟨rfl,rfl⟩))
       go_ret
       exact ⟨rfl,kb_alloc2 _ _ _ _⟩
     ·have g4:(d.p:Int) < d.m:=by omega
      rw [dc_f (fun g=>(h4) (g.2.2.2.2.1))]
      clear HV
      try clear h9
      try clear ha
      try clear hc
      go_enter Tryz.func37,Tryz.ntmps37
      go_wp2_with (first | (go_at_call 52;refine (QN _).mono ?_;rintro e w1 ⟨rfl,rfl⟩))
      go_ret
      exact ⟨rfl,kb_alloc2 _ _ _ _⟩
    ·have g3:d.m < 0:=by omega
     rw [dc_f (fun g=>(h3) (g.2.2.2.1))]
     clear HV
     try clear h9
     try clear ha
     try clear hc
     go_enter Tryz.func37,Tryz.ntmps37
     go_wp2_with (first | (go_at_call 52;refine (QN _).mono ?_;rintro e w1 ⟨rfl,rfl⟩))
     go_ret
     exact ⟨rfl,kb_alloc2 _ _ _ _⟩
   ·have g2:(200:Int) < (d.u:Int):=by omega
    rw [dc_f (fun g=>(h2) (g.2.2.1))]
    clear HV
    try clear h9
    try clear ha
    try clear hc
    go_enter Tryz.func37,Tryz.ntmps37
    go_wp2_with (first | (go_at_call 52;refine (QN _).mono ?_;rintro e w1 ⟨rfl,rfl⟩))
    go_ret
    exact ⟨rfl,kb_alloc2 _ _ _ _⟩
  ·have g1:(200:Int) < (d.p:Int):=by omega
   rw [dc_f (fun g=>(h1) (g.2.1))]
   clear HV
   try clear h9
   try clear ha
   try clear hc
   go_enter Tryz.func37,Tryz.ntmps37
   go_wp2_with (first | (go_at_call 52;refine (QN _).mono ?_;rintro e w1 ⟨rfl,rfl⟩))
   go_ret
   exact ⟨rfl,kb_alloc2 _ _ _ _⟩
 ·have g0:((d.n:Int) == 0)=true:=beq1 (by omega)
  rw [dc_f (fun g=>(h0) (g.1))]
  clear HV
  try clear h9
  try clear ha
  try clear hc
  go_enter Tryz.func37,Tryz.ntmps37
  go_wp2_with (first | (go_at_call 52;refine (QN _).mono ?_;rintro e w1 ⟨rfl,rfl⟩))
  go_ret
  exact ⟨rfl,kb_alloc2 _ _ _ _⟩
end Go.Proofs.YtfpidccjcemcjaaGreat.Fo
