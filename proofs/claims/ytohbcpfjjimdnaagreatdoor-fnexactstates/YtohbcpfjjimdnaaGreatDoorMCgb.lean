import Derived.Test.YtohbcpfjjimdnaaGreatDoorMCfa
set_option maxHeartbeats 64000000
namespace Go.Proofs.YtohbcpfjjimdnaaGreatDoor.Fo
open Go.ChangeShapes Go.WideShapes Go.ChangeAt Go.RowKit
set_option linter.unusedVariables false
set_option maxRecDepth 100000
theorem sp_parts{A:Addr}{np ca:Nat}{F:Nat->Pd}(w:World)(hfn:∀i,i<np->ProC 0 w (A.add (i*9)) (F i))(hnp0:0<np)(hca:np<=ca)(hb:Bd np F):
  Calls Tryz.prog 59 #[.agg #[.slice (some A) np ca]] w λe w'=>∃c f n:Nat,e=.returned (.agg #[.int .i64 c,.int .i64 f,.int .i64 n])/\Ans 5 np F c f n/\Kb 0 w w':=by
 have hnI:(np:Int)<=1048576:=by have:=hb.hnp;omega
 obtain⟨w2,hw2⟩:∃w2,w2=(w.alloc (.cells #[.slice (some A) np ca] 30)).alloc (.cells #[.int .i64 0,.int .i64 0,.int .i64 0] 39):=⟨_,rfl⟩
 obtain⟨b0,b1,sz2,k2⟩:=two_new w _ _ _ _ w2 hw2
 have HRES:Hid (∀W,Kb 0 w2 W->W.cell? ⟨w.heap.size+1,0,none⟩=some (.int .i64 0)/\W.cell? ⟨w.heap.size+1,1,none⟩=some (.int .i64 0)/\W.cell? ⟨w.heap.size+1,2,none⟩=some (.int .i64 0)/\(∀j,W.frozen? ⟨w.heap.size+1,j,none⟩=false)/\Kb 0 w W/\w.heap.size+1<W.heap.size):=(λW k=>by
  have:=k.size
  exact⟨k.cell (cell_of b1 rfl),k.cell (cell_of b1 rfl),k.cell (cell_of b1 rfl),λj=>(k.frozen zq (by omega)).trans (frozen_of b1),k2.trans k,by omega⟩:∀W,_)
 have HBOX:Hid (∀W,Kb 0 w2 W->W.cell? ⟨w.heap.size,0,none⟩=some (.slice (some A) np ca)):=(λW k=>k.cell (cell_of b0 rfl):∀W,_)
 have HFN:Hid (∀W,Kb 0 w2 W->∀i,i<np->ProC 0 W (A.add (i*9)) (F i)):=(λW k i hi=>(hfn i hi).keep zq (k2.trans k):∀W,_)
 have HHD:Hid (∀W,Kb 0 w2 W->∀p,p<np->Calls Tryz.prog 98 #[.agg #[.slice (some A) np ca],.int .i64 p] W λe w'=>e=.returned (.bool (dc (Hd p (F p))))/\Kb 0 W w'):=(λW k p hp=>by
  obtain⟨vu,vc,vn,vd,cc,hvu,hvc,hvn,hvd⟩:=(hfn p hp).keep zq (k2.trans k);obtain⟨pu,cu,rfl,-⟩:=hvu;obtain⟨pc,c2,rfl,-⟩:=hvc;obtain⟨pn,cn,rfl,-⟩:=hvn;obtain⟨pm,cm,rfl,-⟩:=hvd
  exact sp_head W hp hb.hnp cc (hb.hu p hp) (hb.hc p hp) (hb.hg p hp):∀W,_)
 have HCO:Hid (∀W,∀p,p<np->∀i,i<(F p).c->Calls Tryz.prog 99 #[.agg #[.int .i64 ((F p).C i).k,.int .i64 ((F p).C i).m,.float .f64 ((F p).C i).g,.string ((F p).C i).x,.int .i64 ((F p).C i).r]] W λe w'=>e=.returned (.bool (dc (Cok ((F p).C i))))/\Kb 0 W w'):=(λW p hp i hi=>sp_const ((F p).C i) (hb.hC p hp i hi).1 (hb.hC p hp i hi).2 W:∀W,_)
 have HNA:Hid ((∀p,p<np->Hd p (F p))->∀W,Kb 0 w2 W->∀p,p<np->∀i,i<(F p).d->∀pu cu pc cc pn cn pm cm,RowM 0 W (.slice pm (F p).d cm) (F p).d (F p).D->Calls Tryz.prog 100 #[.agg #[.string (F p).x,.int .i64 (F p).l,.int .i64 (F p).m,.bool (F p).r,.int .i64 (F p).g,.slice pu (F p).u cu,.slice pc (F p).c cc,.slice pn (F p).n cn,.slice pm (F p).d cm],.int .i64 i] W λe w'=>e=.returned (.bool (dc (Nok (F p) i)))/\Kb 0 W w'):=(λhh W k p hp i hi pu cu pc cc pn cn pm cm hr=>by
  obtain⟨pm',cm',e1,hrow2⟩:=hr;obtain⟨rfl,-,rfl⟩:pm=pm'/\(F p).d=(F p).d/\cm=cm':=by simpa using e1
  obtain⟨b,rfl,hcb,-,hrb⟩:=hrow2 (by omega)
  exact sp_nam W hi (hb.hd p hp) (hb.hn p hp) (hrb i hi) (hh p hp).2.2.1:_->∀W,_)
 have HIN:Hid ((∀p,p<np->Hd p (F p))->∀W,Kb 0 w2 W->∀p,p<np->∀i,i<(F p).n->Calls Tryz.prog 101 #[.agg #[.slice (some A) np ca],.int .i64 p,.int .i64 i] W λe w'=>e=.returned (.bool (dc (Iok np (F p) i)))/\Kb 0 W w'):=(λhh W k p hp i hi=>by
  obtain⟨vu,vc,vn,vd,cc,hvu,hvc,hvn,hvd⟩:=(hfn p hp).keep zq (k2.trans k);obtain⟨pu,cu,rfl,-⟩:=hvu;obtain⟨pc,c2,rfl,-⟩:=hvc;have hvn2:=hvn;obtain⟨pn,cn,rfl,-⟩:=hvn;obtain⟨pm,cm,rfl,-⟩:=hvd
  exact sp_insok W hp hb.hnp cc hvn2 hi (hb.hu p hp) (hb.hc p hp) (hb.hn p hp) (hh p hp).2.2.1:_->∀W,_)
 have HBD:Hid (Bd np F):=hb;have HW:Hid (w2=(w.alloc (.cells #[.slice (some A) np ca] 30)).alloc (.cells #[.int .i64 0,.int .i64 0,.int .i64 0] 39)):=hw2;clear hfn hb hw2 k2 b0 b1 sz2;go_enter Tryz.func59,Tryz.ntmps59;go_wp2_with fail;rw[<-(uh HW)];clear HW
 go_loopw [3,20] (λs3 s20 wr=>∃i:Nat,s20=.int .i64 i/\i<=np/\s3=.int .i64 (sm (λi=>(F i).n) i:Int)/\Hid (Kb 0 w2 wr)) (λ_ s20 _=>np-(intOf s20).toNat)
 case atStart=>exact⟨0,rfl,Nat.zero_le _,rfl,Kb.refl _ _⟩
 case round=>
  obtain⟨i,rfl,hi,rfl,HK⟩:=hrel;rcases Nat.lt_or_ge i np with h|h
  ·have hI:(i:Int)<(np:Int):=by omega
   obtain⟨vu,vc,vn,vd,⟨d0,d1,d2,d3,d4,d5,d6,d7,d8⟩,hvu,hvc,hvn,hvd⟩:=(uh HFN) wr HK i h;obtain⟨pu,cu,rfl,-⟩:=hvu;obtain⟨pc,cc,rfl,-⟩:=hvc;obtain⟨pn,cn,rfl,-⟩:=hvn;obtain⟨pm,cm,rfl,-⟩:=hvd;have hs:=(uh HBD).hsm;have hmo:=sm_mono (λi=>(F i).n) (show i+1<=np from h);have hsu:sm (λi=>(F i).n) (i+1)=sm (λi=>(F i).n) i+(F i).n:=rfl;obtain⟨x,hx⟩:∃x,x=sm (λi=>(F i).n) i:=⟨_,rfl⟩
   have HX:Hid (sm (λi=>(F i).n) (i+1)=x+(F i).n):=by rw[hx];exact hsu
   have hx1:(x:Int)<=1048576:=by omega
   have hx2:(x:Int)+((F i).n:Int)<=1048576:=by omega
   rw[<-hx];have HK2:Hid (∀o,Kb 0 w2 (wr.alloc o)):=(λo=>(uh HK).alloc o:∀o,_)
   clear hs hmo hsu hx HK HRES HHD HCO HNA HIN HFN HBD HBOX;go_wp2_with fail;go_roundw
   case rel=>exact⟨i+1,by go_num,by omega,by rw[show sm (λi=>(F i).n) (i+1)=x+(F i).n from HX];go_num,(uh HK2) _⟩
   case measure=>simp[intOf];omega
  ·obtain rfl:np=i:=by omega
   have c2:wr.cell? ⟨w.heap.size,0,none⟩=some (.slice (some A) np ca):=(uh HBOX) wr HK;have hI:¬(np:Int)<(np:Int):=by omega
   have g0:((np:Int)==0)=false:=bne (by omega);obtain⟨x,hx⟩:∃x,x=sm (λi=>(F i).n) np:=⟨_,rfl⟩
   rw[<-hx];by_cases hsz:Szu np F
   case neg=>
    have HAN0:Hid (Ans 5 np F 1 0 0):=Or.inl ⟨rfl,rfl,rfl,hsz⟩
    have hcase:200<np\/(np<=200/\6000<x):=by
     unfold Szu at hsz;rw[<-hx]at hsz;omega
    clear hsz hx HHD HCO HNA HIN HFN HBD HBOX h;rcases hcase with h3|⟨h3,h4⟩
    ·have g3:(200:Int)<(np:Int):=by omega
     go_wp2_with fail;have KCUR:=(uh HK)
     have HRES1:=(uh HRES)
     refine(sp_fault 1 0 0 _).mono ?_;rintro e w9 ⟨rfl,k9⟩;have r0:w9.cell? ⟨w.heap.size+1,0,none⟩=some (.int .i64 0):=k9.cell (HRES1 _ KCUR).1;have r1:w9.cell? ⟨w.heap.size+1,1,none⟩=some (.int .i64 0):=k9.cell (HRES1 _ KCUR).2.1;have r2:w9.cell? ⟨w.heap.size+1,2,none⟩=some (.int .i64 0):=k9.cell (HRES1 _ KCUR).2.2.1;have fr:∀j,w9.frozen? ⟨w.heap.size+1,j,none⟩=false:=λj=>(HRES1 w9 (KCUR.trans k9)).2.2.2.1 j;have HKW:Hid (Kb 0 w w9/\w.heap.size+1<w9.heap.size):=(⟨(HRES1 w9 (KCUR.trans k9)).2.2.2.2.1,(HRES1 w9 (KCUR.trans k9)).2.2.2.2.2⟩:_/\_)
     clear k9 KCUR HRES1 HRES;go_wp2_with fail;refine bodyPost_ret (by simp[results,Tryz.results59,go_sem,r0,r1,r2];rfl) rfl ?_;exact⟨_,_,_,rfl,HAN0,(((show Kb 0 w w9 from HKW.1).setCell ⟨w.heap.size+1,0,none⟩ (Or.inr (by show w.heap.size<=w.heap.size+1;omega)) _).setCell ⟨w.heap.size+1,1,none⟩ (Or.inr (by show w.heap.size<=w.heap.size+1;omega)) _).setCell ⟨w.heap.size+1,2,none⟩ (Or.inr (by show w.heap.size<=w.heap.size+1;omega)) _⟩
    ·have g3:¬(200:Int)<(np:Int):=by omega
     have g4:(6000:Int)<(x:Int):=by omega
     go_wp2_with fail;have KCUR:=(uh HK)
     have HRES1:=(uh HRES)
     refine(sp_fault 1 0 0 _).mono ?_;rintro e w9 ⟨rfl,k9⟩;have r0:w9.cell? ⟨w.heap.size+1,0,none⟩=some (.int .i64 0):=k9.cell (HRES1 _ KCUR).1;have r1:w9.cell? ⟨w.heap.size+1,1,none⟩=some (.int .i64 0):=k9.cell (HRES1 _ KCUR).2.1;have r2:w9.cell? ⟨w.heap.size+1,2,none⟩=some (.int .i64 0):=k9.cell (HRES1 _ KCUR).2.2.1;have fr:∀j,w9.frozen? ⟨w.heap.size+1,j,none⟩=false:=λj=>(HRES1 w9 (KCUR.trans k9)).2.2.2.1 j;have HKW:Hid (Kb 0 w w9/\w.heap.size+1<w9.heap.size):=(⟨(HRES1 w9 (KCUR.trans k9)).2.2.2.2.1,(HRES1 w9 (KCUR.trans k9)).2.2.2.2.2⟩:_/\_)
     clear k9 KCUR HRES1 HRES;go_wp2_with fail;refine bodyPost_ret (by simp[results,Tryz.results59,go_sem,r0,r1,r2];rfl) rfl ?_;exact⟨_,_,_,rfl,HAN0,(((show Kb 0 w w9 from HKW.1).setCell ⟨w.heap.size+1,0,none⟩ (Or.inr (by show w.heap.size<=w.heap.size+1;omega)) _).setCell ⟨w.heap.size+1,1,none⟩ (Or.inr (by show w.heap.size<=w.heap.size+1;omega)) _).setCell ⟨w.heap.size+1,2,none⟩ (Or.inr (by show w.heap.size<=w.heap.size+1;omega)) _⟩
   have hsz2:=hsz;unfold Szu at hsz2;rw[<-hx]at hsz2;have g3:¬(200:Int)<(np:Int):=by omega
   have g4:¬(6000:Int)<(x:Int):=by omega
   have HSZ:Hid (Szu np F):=hsz;clear hsz hsz2 hx h hI;go_wp2_with fail;clear c2 g0 g3 g4
   go_loopw [48] (λsl wr=>∃p:Nat,sl=.int .i64 p/\p<=np/\Hid (Kb 0 w2 wr/\∀g,g<p->Hd g (F g))) (λsl _=>np-(intOf sl).toNat)
   case atStart=>exact⟨0,rfl,Nat.zero_le _,(⟨HK,λg hg=>by omega⟩:_/\_)⟩
   case round=>
    clear HK;obtain⟨p,rfl,hp,HX⟩:=hrel;obtain⟨kw,hX⟩:=(uh HX)
    have c2:wr.cell? ⟨w.heap.size,0,none⟩=some (.slice (some A) np ca):=(uh HBOX) wr kw;rcases Nat.lt_or_ge p np with h|h
    ·have hI:(p:Int)<(np:Int):=by omega
     have HC:=(uh HHD) wr kw p h;by_cases c:Hd p (F p)
     ·rw[dc_t c]at HC
      have HX2:Hid (∀W,Kb 0 wr W->Kb 0 w2 W/\∀g,g<p+1->Hd g (F g)):=(λW k=>⟨kw.trans k,λg hg=>by
       by_cases e:g=p
       ·subst e;exact c
       ·exact hX g (by omega)⟩:∀W,_)
      clear HX hX c kw HRES HHD HCO HNA HIN HFN HBD HBOX;go_wp2_with fail;refine HC.mono ?_;rintro e w5 ⟨rfl,k5⟩;have HX3:Hid (Kb 0 w2 w5/\∀g,g<p+1->Hd g (F g)):=(uh HX2) w5 k5;clear HC k5 HX2 c2;go_wp2_with fail;go_roundw
      case rel=>exact⟨p+1,by go_num,by omega,HX3⟩
      case measure=>simp[intOf];omega
     ·rw[dc_f c]at HC;have HAN0:Hid (Ans 5 np F 2 p 0):=Or.inr (Or.inl ⟨HSZ,by omega,by omega,⟨h,Nat.zero_lt_one,c,λz hz=>by omega,λg hg _ _=>hX g hg⟩,λc' h1 h2=>by omega⟩);have HKC:Hid (Kb 0 w2 wr):=kw;clear HX hX c kw HHD HCO HNA HIN HFN HBD HBOX;go_wp2_with fail;refine HC.mono ?_;rintro e w5 ⟨rfl,k5⟩;have HKC5:Hid (Kb 0 w2 w5):=(uh HKC).trans k5;clear HC k5 c2 HKC;go_wp2_with fail;have KCUR:=(uh HKC5)
      have HRES1:=(uh HRES)
      refine(sp_fault 2 (p:Int) 0 _).mono ?_;rintro e w9 ⟨rfl,k9⟩;have r0:w9.cell? ⟨w.heap.size+1,0,none⟩=some (.int .i64 0):=k9.cell (HRES1 _ KCUR).1;have r1:w9.cell? ⟨w.heap.size+1,1,none⟩=some (.int .i64 0):=k9.cell (HRES1 _ KCUR).2.1;have r2:w9.cell? ⟨w.heap.size+1,2,none⟩=some (.int .i64 0):=k9.cell (HRES1 _ KCUR).2.2.1;have fr:∀j,w9.frozen? ⟨w.heap.size+1,j,none⟩=false:=λj=>(HRES1 w9 (KCUR.trans k9)).2.2.2.1 j;have HKW:Hid (Kb 0 w w9/\w.heap.size+1<w9.heap.size):=(⟨(HRES1 w9 (KCUR.trans k9)).2.2.2.2.1,(HRES1 w9 (KCUR.trans k9)).2.2.2.2.2⟩:_/\_)
      clear k9 KCUR HRES1 HRES;go_wp2_with fail;refine bodyPost_ret (by simp[results,Tryz.results59,go_sem,r0,r1,r2];rfl) rfl ?_;exact⟨_,_,_,rfl,HAN0,(((show Kb 0 w w9 from HKW.1).setCell ⟨w.heap.size+1,0,none⟩ (Or.inr (by show w.heap.size<=w.heap.size+1;omega)) _).setCell ⟨w.heap.size+1,1,none⟩ (Or.inr (by show w.heap.size<=w.heap.size+1;omega)) _).setCell ⟨w.heap.size+1,2,none⟩ (Or.inr (by show w.heap.size<=w.heap.size+1;omega)) _⟩
    ·obtain rfl:np=p:=by omega
     have hI:¬(np:Int)<(np:Int):=by omega
     have HLA2:Hid (∀g,g<np->Hd g (F g)):=hX;have HKC:Hid (Kb 0 w2 wr):=kw;clear HX hX kw h HHD;go_wp2_with fail;clear c2 hI
     go_loopw [61] (λsl wr=>∃p:Nat,sl=.int .i64 p/\p<=np/\Hid (Kb 0 w2 wr/\(∀g,g<p->∀y,y<(F g).c->Cok ((F g).C y)))) (λsl _=>np-(intOf sl).toNat)
     case atStart=>exact⟨0,rfl,Nat.zero_le _,(⟨HKC,λg hg=>by omega⟩:_/\_)⟩
     case round=>
      clear HKC;obtain⟨p,rfl,hp,HX⟩:=hrel;obtain⟨kw,hX⟩:=(uh HX)
      have c2:wr.cell? ⟨w.heap.size,0,none⟩=some (.slice (some A) np ca):=(uh HBOX) wr kw;rcases Nat.lt_or_ge p np with h|h
      ·have hI:(p:Int)<(np:Int):=by omega
       obtain⟨vu,vc,vn,vd,⟨d0,d1,d2,d3,d4,d5,d6,d7,d8⟩,hvu,hvc,hvn,hvd⟩:=(uh HFN) wr kw p h;have hvc2:=hvc;have hvd2:=hvd;obtain⟨pu,cu,rfl,-⟩:=hvu;obtain⟨pc,cc,rfl,-⟩:=hvc;obtain⟨pn,cn,rfl,-⟩:=hvn;obtain⟨pm,cm,rfl,-⟩:=hvd;have hlnI:((F p).c:Int)<=1048576:=by have:=(uh HBD).hc p h;omega
       obtain⟨w6,hw6⟩:∃w6,w6=wr.alloc (.cells #[.string (F p).x,.int .i64 (F p).l,.int .i64 (F p).m,.bool (F p).r,.int .i64 (F p).g,.slice pu (F p).u cu,.slice pc (F p).c cc,.slice pn (F p).n cn,.slice pm (F p).d cm] 52):=⟨_,rfl⟩
       have k6:Kb 0 wr w6:=by rw[hw6];exact kb_alloc _ _ _
       obtain⟨g6,hg6⟩:∃g6,g6=wr.heap.size:=⟨_,rfl⟩
       have HG6:Hid (g6=wr.heap.size):=hg6;have HB6:Hid (w6.heap[g6]? =some (.cells #[.string (F p).x,.int .i64 (F p).l,.int .i64 (F p).m,.bool (F p).r,.int .i64 (F p).g,.slice pu (F p).u cu,.slice pc (F p).c cc,.slice pn (F p).n cn,.slice pm (F p).d cm] 52 (0,0))/\Kb 0 w2 w6/\RowW 0 w6 (.slice pc (F p).c cc) (F p).c (F p).C/\RowM 0 w6 (.slice pm (F p).d cm) (F p).d (F p).D):=(⟨by rw[hw6,hg6];exact alloc_new _ _ _,kw.trans k6,hvc2.keep k6,hvd2.keep k6⟩:_/\_)
       have HW6:Hid (w6=wr.alloc (.cells #[.string (F p).x,.int .i64 (F p).l,.int .i64 (F p).m,.bool (F p).r,.int .i64 (F p).g,.slice pu (F p).u cu,.slice pc (F p).c cc,.slice pn (F p).n cn,.slice pm (F p).d cm] 52)):=hw6;have HXP:Hid ((∀g,g<p->∀y,y<(F g).c->Cok ((F g).C y))):=hX;clear hg6 HX hX kw k6 hw6 hvc2 hvd2 c2
       go_wp2_with fail;rw[<-(uh HW6)]
       try rw[<-(uh HG6)]
       clear HW6 HG6 d0 d1 d2 d3 d4 d5 d6 d7 d8
       go_loopw [69] (λsl wr=>∃j:Nat,sl=.int .i64 j/\j<=(F p).c/\Hid (Kb 0 w6 wr/\∀y,y<j->Cok ((F p).C y))) (λsl _=>(F p).c-(intOf sl).toNat)
       case atStart=>exact⟨0,rfl,Nat.zero_le _,(⟨Kb.refl _ _,λy hy=>by omega⟩:_/\_)⟩
       case round=>
        obtain⟨j,rfl,hj,HY⟩:=hrel;obtain⟨kj,hY⟩:=(uh HY)
        obtain⟨b6,k26,rw6,rm6⟩:=(uh HB6)
        rcases Nat.lt_or_ge j (F p).c with h2|h2
        ·have hI2:(j:Int)<((F p).c:Int):=by omega
         have kwj:=k26.trans kj;obtain⟨pc',cc',e1,hrow2⟩:=id rw6;obtain⟨rfl,-,rfl⟩:pc=pc'/\(F p).c=(F p).c/\cc=cc':=by simpa using e1
         obtain⟨b,rfl,hcb,-,hrb⟩:=hrow2 (by omega);obtain⟨q0,q1,q2,q3,q4⟩:=(hrb j h2).keep zq kj;obtain⟨w7,hw7⟩:∃w7,w7=wr.alloc (.cells #[.int .i64 ((F p).C j).k,.int .i64 ((F p).C j).m,.float .f64 ((F p).C j).g,.string ((F p).C j).x,.int .i64 ((F p).C j).r] 151):=⟨_,rfl⟩
         have k7:Kb 0 wr w7:=by rw[hw7];exact kb_alloc _ _ _
         have HC:=(uh HCO) w7 p h j h2;have HW7:Hid (w7=wr.alloc (.cells #[.int .i64 ((F p).C j).k,.int .i64 ((F p).C j).m,.float .f64 ((F p).C j).g,.string ((F p).C j).x,.int .i64 ((F p).C j).r] 151)):=hw7;have hst:=hst0;clear hrow2 hrb e1;by_cases c:Cok ((F p).C j)
         ·rw[dc_t c]at HC
          have HX2:Hid (∀W,Kb 0 w7 W->Kb 0 w6 W/\∀y,y<j+1->Cok ((F p).C y)):=(λW k=>⟨(kj.trans k7).trans k,λy hy=>by
           by_cases e:y=j
           ·subst e;exact c
           ·exact hY y (by omega)⟩:∀W,_)
          clear HY hY c kj kwj k26 b6 rw6 rm6 HRES HCO HNA HIN HFN HBD HBOX hw7 k7;go_wp2_with fail;rw[<-(uh HW7)];refine HC.mono ?_;rintro e w5 ⟨rfl,k5⟩;have HX3:Hid (Kb 0 w6 w5/\∀y,y<j+1->Cok ((F p).C y)):=(uh HX2) w5 k5;clear HC k5 HX2 HW7 q0 q1 q2 q3 q4 hst;go_wp2_with fail;go_roundw
          case rel=>exact⟨j+1,by go_num,by omega,HX3⟩
          case measure=>simp[intOf];omega
         ·rw[dc_f c]at HC
          have HAN0:Hid (Ans 5 np F 3 p j):=by
           have hXP:=(uh HXP)
           exact Or.inr (Or.inl ⟨HSZ,by omega,by omega,⟨h,h2,c,hY,λg hg y hy=>hXP g hg y hy⟩,λc' h1 h3=>by
            obtain rfl:c'=2:=by omega
            exact λf hf i _=>(uh HLA2) f hf⟩)
          have HKC:Hid (Kb 0 w2 w7):=(kwj.trans k7)
          clear HY hY c kj kwj k26 b6 rw6 rm6 HCO HNA HIN HFN HBD HBOX hw7 k7 HXP HB6;go_wp2_with fail;rw[<-(uh HW7)];refine HC.mono ?_;rintro e w5 ⟨rfl,k5⟩;have HKC5:Hid (Kb 0 w2 w5):=(uh HKC).trans k5;clear HC k5 HKC HW7 q0 q1 q2 q3 q4 hst;go_wp2_with fail;have KCUR:=(uh HKC5)
          have HRES1:=(uh HRES)
          refine(sp_fault 3 (p:Int) (j:Int) _).mono ?_;rintro e w9 ⟨rfl,k9⟩;have r0:w9.cell? ⟨w.heap.size+1,0,none⟩=some (.int .i64 0):=k9.cell (HRES1 _ KCUR).1;have r1:w9.cell? ⟨w.heap.size+1,1,none⟩=some (.int .i64 0):=k9.cell (HRES1 _ KCUR).2.1;have r2:w9.cell? ⟨w.heap.size+1,2,none⟩=some (.int .i64 0):=k9.cell (HRES1 _ KCUR).2.2.1;have fr:∀j,w9.frozen? ⟨w.heap.size+1,j,none⟩=false:=λj=>(HRES1 w9 (KCUR.trans k9)).2.2.2.1 j;have HKW:Hid (Kb 0 w w9/\w.heap.size+1<w9.heap.size):=(⟨(HRES1 w9 (KCUR.trans k9)).2.2.2.2.1,(HRES1 w9 (KCUR.trans k9)).2.2.2.2.2⟩:_/\_)
          clear k9 KCUR HRES1 HRES;go_wp2_with fail;refine bodyPost_ret (by simp[results,Tryz.results59,go_sem,r0,r1,r2];rfl) rfl ?_;exact⟨_,_,_,rfl,HAN0,(((show Kb 0 w w9 from HKW.1).setCell ⟨w.heap.size+1,0,none⟩ (Or.inr (by show w.heap.size<=w.heap.size+1;omega)) _).setCell ⟨w.heap.size+1,1,none⟩ (Or.inr (by show w.heap.size<=w.heap.size+1;omega)) _).setCell ⟨w.heap.size+1,2,none⟩ (Or.inr (by show w.heap.size<=w.heap.size+1;omega)) _⟩
        ·have hI2:¬(j:Int)<((F p).c:Int):=by omega
         have HX4:Hid (Kb 0 w2 wr/\(∀g,g<p+1->∀y,y<(F g).c->Cok ((F g).C y))):=by
          have hXP:=(uh HXP)
          exact(show _/\_ from⟨k26.trans kj,λg hg y hy=>by
           by_cases e:g=p
           ·subst e;exact hY y (by omega)
           ·exact hXP g (by omega) y hy⟩)
         clear HY hY kj k26 b6 rw6 rm6 HRES HCO HNA HIN HFN HBD HBOX HXP HB6;go_wp2_with fail;go_roundw
         case rel=>exact⟨p+1,by go_num,by omega,HX4⟩
         case measure=>simp[intOf];omega
      ·obtain rfl:np=p:=by omega
       have hI:¬(np:Int)<(np:Int):=by omega
       have HLA3:Hid ((∀g,g<np->∀y,y<(F g).c->Cok ((F g).C y))):=hX;have HKC:Hid (Kb 0 w2 wr):=kw;clear HX hX kw h;go_wp2_with fail;clear hI
       go_loopw [85] (λsl wr=>∃p:Nat,sl=.int .i64 p/\p<=np/\Hid (Kb 0 w2 wr/\(∀g,g<p->∀y,y<(F g).d->Nok (F g) y))) (λsl _=>np-(intOf sl).toNat)
       case atStart=>exact⟨0,rfl,Nat.zero_le _,(⟨HKC,λg hg=>by omega⟩:_/\_)⟩
       case round=>
        clear HKC;obtain⟨p,rfl,hp,HX⟩:=hrel;obtain⟨kw,hX⟩:=(uh HX)
        have c2:wr.cell? ⟨w.heap.size,0,none⟩=some (.slice (some A) np ca):=(uh HBOX) wr kw;rcases Nat.lt_or_ge p np with h|h
        ·have hI:(p:Int)<(np:Int):=by omega
         obtain⟨vu,vc,vn,vd,⟨d0,d1,d2,d3,d4,d5,d6,d7,d8⟩,hvu,hvc,hvn,hvd⟩:=(uh HFN) wr kw p h;have hvc2:=hvc;have hvd2:=hvd;obtain⟨pu,cu,rfl,-⟩:=hvu;obtain⟨pc,cc,rfl,-⟩:=hvc;obtain⟨pn,cn,rfl,-⟩:=hvn;obtain⟨pm,cm,rfl,-⟩:=hvd;have hlnI:((F p).d:Int)<=1048576:=by have:=(uh HBD).hd p h;omega
         obtain⟨w6,hw6⟩:∃w6,w6=wr.alloc (.cells #[.string (F p).x,.int .i64 (F p).l,.int .i64 (F p).m,.bool (F p).r,.int .i64 (F p).g,.slice pu (F p).u cu,.slice pc (F p).c cc,.slice pn (F p).n cn,.slice pm (F p).d cm] 52):=⟨_,rfl⟩
         have k6:Kb 0 wr w6:=by rw[hw6];exact kb_alloc _ _ _
         obtain⟨g6,hg6⟩:∃g6,g6=wr.heap.size:=⟨_,rfl⟩
         have HG6:Hid (g6=wr.heap.size):=hg6;have HB6:Hid (w6.heap[g6]? =some (.cells #[.string (F p).x,.int .i64 (F p).l,.int .i64 (F p).m,.bool (F p).r,.int .i64 (F p).g,.slice pu (F p).u cu,.slice pc (F p).c cc,.slice pn (F p).n cn,.slice pm (F p).d cm] 52 (0,0))/\Kb 0 w2 w6/\RowW 0 w6 (.slice pc (F p).c cc) (F p).c (F p).C/\RowM 0 w6 (.slice pm (F p).d cm) (F p).d (F p).D):=(⟨by rw[hw6,hg6];exact alloc_new _ _ _,kw.trans k6,hvc2.keep k6,hvd2.keep k6⟩:_/\_)
         have HW6:Hid (w6=wr.alloc (.cells #[.string (F p).x,.int .i64 (F p).l,.int .i64 (F p).m,.bool (F p).r,.int .i64 (F p).g,.slice pu (F p).u cu,.slice pc (F p).c cc,.slice pn (F p).n cn,.slice pm (F p).d cm] 52)):=hw6;have HXP:Hid ((∀g,g<p->∀y,y<(F g).d->Nok (F g) y)):=hX;clear hg6 HX hX kw k6 hw6 hvc2 hvd2 c2
         go_wp2_with fail;rw[<-(uh HW6)]
         try rw[<-(uh HG6)]
         clear HW6 HG6 d0 d1 d2 d3 d4 d5 d6 d7 d8
         go_loopw [93] (λsl wr=>∃j:Nat,sl=.int .i64 j/\j<=(F p).d/\Hid (Kb 0 w6 wr/\∀y,y<j->Nok (F p) y)) (λsl _=>(F p).d-(intOf sl).toNat)
         case atStart=>exact⟨0,rfl,Nat.zero_le _,(⟨Kb.refl _ _,λy hy=>by omega⟩:_/\_)⟩
         case round=>
          obtain⟨j,rfl,hj,HY⟩:=hrel;obtain⟨kj,hY⟩:=(uh HY)
          obtain⟨b6,k26,rw6,rm6⟩:=(uh HB6)
          rcases Nat.lt_or_ge j (F p).d with h2|h2
          ·have hI2:(j:Int)<((F p).d:Int):=by omega
           have kwj:=k26.trans kj;have HC:=(uh HNA) HLA2 wr kwj p h j h2 pu cu pc cc pn cn pm cm (rm6.keep kj);have q0:wr.cell? ⟨g6,0,none⟩=some (.string (F p).x):=kj.cell (cell_of b6 rfl);have q1:wr.cell? ⟨g6,1,none⟩=some (.int .i64 (F p).l):=kj.cell (cell_of b6 rfl);have q2:wr.cell? ⟨g6,2,none⟩=some (.int .i64 (F p).m):=kj.cell (cell_of b6 rfl);have q3:wr.cell? ⟨g6,3,none⟩=some (.bool (F p).r):=kj.cell (cell_of b6 rfl);have q4:wr.cell? ⟨g6,4,none⟩=some (.int .i64 (F p).g):=kj.cell (cell_of b6 rfl);have q5:wr.cell? ⟨g6,5,none⟩=some (.slice pu (F p).u cu):=kj.cell (cell_of b6 rfl);have q6:wr.cell? ⟨g6,6,none⟩=some (.slice pc (F p).c cc):=kj.cell (cell_of b6 rfl);have q7:wr.cell? ⟨g6,7,none⟩=some (.slice pn (F p).n cn):=kj.cell (cell_of b6 rfl);have q8:wr.cell? ⟨g6,8,none⟩=some (.slice pm (F p).d cm):=kj.cell (cell_of b6 rfl);by_cases c:Nok (F p) j
           ·rw[dc_t c]at HC
            have HX2:Hid (∀W,Kb 0 wr W->Kb 0 w6 W/\∀y,y<j+1->Nok (F p) y):=(λW k=>⟨kj.trans k,λy hy=>by
             by_cases e:y=j
             ·subst e;exact c
             ·exact hY y (by omega)⟩:∀W,_)
            clear HY hY c kj kwj k26 b6 rw6 rm6 HRES HCO HNA HIN HFN HBD HBOX;go_wp2_with fail
            refine HC.mono ?_;rintro e w5 ⟨rfl,k5⟩;have HX3:Hid (Kb 0 w6 w5/\∀y,y<j+1->Nok (F p) y):=(uh HX2) w5 k5;clear HC k5 HX2 q0 q1 q2 q3 q4 q5 q6 q7 q8;go_wp2_with fail;go_roundw
            case rel=>exact⟨j+1,by go_num,by omega,HX3⟩
            case measure=>simp[intOf];omega
           ·rw[dc_f c]at HC
            have HAN0:Hid (Ans 5 np F 4 p j):=by
             have hXP:=(uh HXP)
             exact Or.inr (Or.inl ⟨HSZ,by omega,by omega,⟨h,h2,c,hY,λg hg y hy=>hXP g hg y hy⟩,λc' h1 h3=>by
              rcases(by omega:c'=2\/c'=3)with rfl|rfl
              ·exact λf hf i _=>(uh HLA2) f hf
              ·exact(uh HLA3)⟩)
            have HKC:Hid (Kb 0 w2 wr):=kwj;clear HY hY c kj kwj k26 b6 rw6 rm6 HCO HNA HIN HFN HBD HBOX  HXP HB6;go_wp2_with fail
            refine HC.mono ?_;rintro e w5 ⟨rfl,k5⟩;have HKC5:Hid (Kb 0 w2 w5):=(uh HKC).trans k5;clear HC k5 HKC q0 q1 q2 q3 q4 q5 q6 q7 q8;go_wp2_with fail;have KCUR:=(uh HKC5)
            have HRES1:=(uh HRES)
            refine(sp_fault 4 (p:Int) (j:Int) _).mono ?_;rintro e w9 ⟨rfl,k9⟩;have r0:w9.cell? ⟨w.heap.size+1,0,none⟩=some (.int .i64 0):=k9.cell (HRES1 _ KCUR).1;have r1:w9.cell? ⟨w.heap.size+1,1,none⟩=some (.int .i64 0):=k9.cell (HRES1 _ KCUR).2.1;have r2:w9.cell? ⟨w.heap.size+1,2,none⟩=some (.int .i64 0):=k9.cell (HRES1 _ KCUR).2.2.1;have fr:∀j,w9.frozen? ⟨w.heap.size+1,j,none⟩=false:=λj=>(HRES1 w9 (KCUR.trans k9)).2.2.2.1 j;have HKW:Hid (Kb 0 w w9/\w.heap.size+1<w9.heap.size):=(⟨(HRES1 w9 (KCUR.trans k9)).2.2.2.2.1,(HRES1 w9 (KCUR.trans k9)).2.2.2.2.2⟩:_/\_)
            clear k9 KCUR HRES1 HRES;go_wp2_with fail;refine bodyPost_ret (by simp[results,Tryz.results59,go_sem,r0,r1,r2];rfl) rfl ?_;exact⟨_,_,_,rfl,HAN0,(((show Kb 0 w w9 from HKW.1).setCell ⟨w.heap.size+1,0,none⟩ (Or.inr (by show w.heap.size<=w.heap.size+1;omega)) _).setCell ⟨w.heap.size+1,1,none⟩ (Or.inr (by show w.heap.size<=w.heap.size+1;omega)) _).setCell ⟨w.heap.size+1,2,none⟩ (Or.inr (by show w.heap.size<=w.heap.size+1;omega)) _⟩
          ·have hI2:¬(j:Int)<((F p).d:Int):=by omega
           have HX4:Hid (Kb 0 w2 wr/\(∀g,g<p+1->∀y,y<(F g).d->Nok (F g) y)):=by
            have hXP:=(uh HXP)
            exact(show _/\_ from⟨k26.trans kj,λg hg y hy=>by
             by_cases e:g=p
             ·subst e;exact hY y (by omega)
             ·exact hXP g (by omega) y hy⟩)
           clear HY hY kj k26 b6 rw6 rm6 HRES HCO HNA HIN HFN HBD HBOX HXP HB6;go_wp2_with fail;go_roundw
           case rel=>exact⟨p+1,by go_num,by omega,HX4⟩
           case measure=>simp[intOf];omega
        ·obtain rfl:np=p:=by omega
         have hI:¬(np:Int)<(np:Int):=by omega
         have HLA4:Hid ((∀g,g<np->∀y,y<(F g).d->Nok (F g) y)):=hX;have HKC:Hid (Kb 0 w2 wr):=kw;clear HX hX kw h;go_wp2_with fail;clear hI
         go_loopw [108] (λsl wr=>∃p:Nat,sl=.int .i64 p/\p<=np/\Hid (Kb 0 w2 wr/\(∀g,g<p->∀y,y<(F g).n->Iok np (F g) y)/\∀g,g<p->(F g).n≠0)) (λsl _=>np-(intOf sl).toNat)
         case atStart=>exact⟨0,rfl,Nat.zero_le _,(⟨HKC,λg hg=>by omega,λg hg=>by omega⟩:_/\_)⟩
         case round=>
          clear HKC;obtain⟨p,rfl,hp,HX⟩:=hrel;obtain⟨kw,hX,hX2⟩:=(uh HX)
          have c2:wr.cell? ⟨w.heap.size,0,none⟩=some (.slice (some A) np ca):=(uh HBOX) wr kw;rcases Nat.lt_or_ge p np with h|h
          ·have hI:(p:Int)<(np:Int):=by omega
           obtain⟨vu,vc,vn,vd,⟨d0,d1,d2,d3,d4,d5,d6,d7,d8⟩,hvu,hvc,hvn,hvd⟩:=(uh HFN) wr kw p h;have hvc2:=hvc;have hvd2:=hvd;obtain⟨pu,cu,rfl,-⟩:=hvu;obtain⟨pc,cc,rfl,-⟩:=hvc;obtain⟨pn,cn,rfl,-⟩:=hvn;obtain⟨pm,cm,rfl,-⟩:=hvd;have hlnI:((F p).n:Int)<=1048576:=by have:=(uh HBD).hn p h;omega
           obtain⟨w6,hw6⟩:∃w6,w6=wr.alloc (.cells #[.string (F p).x,.int .i64 (F p).l,.int .i64 (F p).m,.bool (F p).r,.int .i64 (F p).g,.slice pu (F p).u cu,.slice pc (F p).c cc,.slice pn (F p).n cn,.slice pm (F p).d cm] 52):=⟨_,rfl⟩
           have k6:Kb 0 wr w6:=by rw[hw6];exact kb_alloc _ _ _
           obtain⟨g6,hg6⟩:∃g6,g6=wr.heap.size:=⟨_,rfl⟩
           have HG6:Hid (g6=wr.heap.size):=hg6;have HB6:Hid (w6.heap[g6]? =some (.cells #[.string (F p).x,.int .i64 (F p).l,.int .i64 (F p).m,.bool (F p).r,.int .i64 (F p).g,.slice pu (F p).u cu,.slice pc (F p).c cc,.slice pn (F p).n cn,.slice pm (F p).d cm] 52 (0,0))/\Kb 0 w2 w6/\RowW 0 w6 (.slice pc (F p).c cc) (F p).c (F p).C/\RowM 0 w6 (.slice pm (F p).d cm) (F p).d (F p).D):=(⟨by rw[hw6,hg6];exact alloc_new _ _ _,kw.trans k6,hvc2.keep k6,hvd2.keep k6⟩:_/\_)
           have HW6:Hid (w6=wr.alloc (.cells #[.string (F p).x,.int .i64 (F p).l,.int .i64 (F p).m,.bool (F p).r,.int .i64 (F p).g,.slice pu (F p).u cu,.slice pc (F p).c cc,.slice pn (F p).n cn,.slice pm (F p).d cm] 52)):=hw6;have HXP:Hid ((∀g,g<p->∀y,y<(F g).n->Iok np (F g) y)/\∀g,g<p->(F g).n≠0):=(⟨hX,hX2⟩:_/\_)
           clear hg6 HX hX kw k6 hw6 hvc2 hvd2 c2 hX2;by_cases hz0:(F p).n=0
           case pos=>
            have gz:(((F p).n:Int)==0)=true:=beq1 (by omega)
            have HAN0:Hid (Ans 5 np F 5 p 0):=by
             have hXP:=(uh HXP)
             exact Or.inr (Or.inl ⟨HSZ,by omega,by omega,⟨h,(show 0<L5 F p by unfold L5;rw[if_pos hz0];exact Nat.zero_lt_one),λq=>q.1 hz0,λi hi=>by omega,λg hg y hy=>⟨hXP.2 g hg,hXP.1 g hg y (by have e:L5 F g=(F g).n:=if_neg (hXP.2 g hg);have hy:y<L5 F g:=hy;omega)⟩⟩,λc' h1 h3=>by
              rcases(by omega:c'=2\/c'=3\/c'=4)with rfl|rfl|rfl
              ·exact λf hf i _=>(uh HLA2) f hf
              ·exact(uh HLA3)
              ·exact(uh HLA4)⟩)
            have HKC5:Hid (Kb 0 w2 w6):=HB6.2.1;clear HXP HB6 HCO HNA HIN HFN HBD HBOX hz0;go_wp2_with fail;rw[<-(uh HW6)];have KCUR:=(uh HKC5)
            have HRES1:=(uh HRES)
            refine(sp_fault 5 (p:Int) 0 _).mono ?_;rintro e w9 ⟨rfl,k9⟩;have r0:w9.cell? ⟨w.heap.size+1,0,none⟩=some (.int .i64 0):=k9.cell (HRES1 _ KCUR).1;have r1:w9.cell? ⟨w.heap.size+1,1,none⟩=some (.int .i64 0):=k9.cell (HRES1 _ KCUR).2.1;have r2:w9.cell? ⟨w.heap.size+1,2,none⟩=some (.int .i64 0):=k9.cell (HRES1 _ KCUR).2.2.1;have fr:∀j,w9.frozen? ⟨w.heap.size+1,j,none⟩=false:=λj=>(HRES1 w9 (KCUR.trans k9)).2.2.2.1 j;have HKW:Hid (Kb 0 w w9/\w.heap.size+1<w9.heap.size):=(⟨(HRES1 w9 (KCUR.trans k9)).2.2.2.2.1,(HRES1 w9 (KCUR.trans k9)).2.2.2.2.2⟩:_/\_)
            clear k9 KCUR HRES1 HRES;go_wp2_with fail;refine bodyPost_ret (by simp[results,Tryz.results59,go_sem,r0,r1,r2];rfl) rfl ?_;exact⟨_,_,_,rfl,HAN0,(((show Kb 0 w w9 from HKW.1).setCell ⟨w.heap.size+1,0,none⟩ (Or.inr (by show w.heap.size<=w.heap.size+1;omega)) _).setCell ⟨w.heap.size+1,1,none⟩ (Or.inr (by show w.heap.size<=w.heap.size+1;omega)) _).setCell ⟨w.heap.size+1,2,none⟩ (Or.inr (by show w.heap.size<=w.heap.size+1;omega)) _⟩
           have gz:(((F p).n:Int)==0)=false:=bne (by omega);go_wp2_with fail;rw[<-(uh HW6)]
           try rw[<-(uh HG6)]
           clear HW6 HG6 d0 d1 d2 d3 d4 d5 d6 d7 d8
           go_loopw [122] (λsl wr=>∃j:Nat,sl=.int .i64 j/\j<=(F p).n/\Hid (Kb 0 w6 wr/\∀y,y<j->Iok np (F p) y)) (λsl _=>(F p).n-(intOf sl).toNat)
           case atStart=>exact⟨0,rfl,Nat.zero_le _,(⟨Kb.refl _ _,λy hy=>by omega⟩:_/\_)⟩
           case round=>
            obtain⟨j,rfl,hj,HY⟩:=hrel;obtain⟨kj,hY⟩:=(uh HY)
            obtain⟨b6,k26,rw6,rm6⟩:=(uh HB6)
            rcases Nat.lt_or_ge j (F p).n with h2|h2
            ·have hI2:(j:Int)<((F p).n:Int):=by omega
             have kwj:=k26.trans kj;have HC:=(uh HIN) HLA2 wr kwj p h j h2;have c2:wr.cell? ⟨w.heap.size,0,none⟩=some (.slice (some A) np ca):=(uh HBOX) wr kwj;by_cases c:Iok np (F p) j
             ·rw[dc_t c]at HC
              have HX2:Hid (∀W,Kb 0 wr W->Kb 0 w6 W/\∀y,y<j+1->Iok np (F p) y):=(λW k=>⟨kj.trans k,λy hy=>by
               by_cases e:y=j
               ·subst e;exact c
               ·exact hY y (by omega)⟩:∀W,_)
              clear HY hY c kj kwj k26 b6 rw6 rm6 HRES HCO HNA HIN HFN HBD HBOX;go_wp2_with fail
              refine HC.mono ?_;rintro e w5 ⟨rfl,k5⟩;have HX3:Hid (Kb 0 w6 w5/\∀y,y<j+1->Iok np (F p) y):=(uh HX2) w5 k5;clear HC k5 HX2 c2;go_wp2_with fail;go_roundw
              case rel=>exact⟨j+1,by go_num,by omega,HX3⟩
              case measure=>simp[intOf];omega
             ·rw[dc_f c]at HC
              have HAN0:Hid (Ans 5 np F 5 p j):=by
               have hXP:=(uh HXP)
               exact Or.inr (Or.inl ⟨HSZ,by omega,by omega,⟨h,(show j<L5 F p by unfold L5;rw[if_neg (by omega)];exact h2),λq=>c q.2,λi hi=>⟨by omega,hY i hi⟩,λg hg y hy=>⟨hXP.2 g hg,hXP.1 g hg y (by have e:L5 F g=(F g).n:=if_neg (hXP.2 g hg);have hy:y<L5 F g:=hy;omega)⟩⟩,λc' h1 h3=>by
                rcases(by omega:c'=2\/c'=3\/c'=4)with rfl|rfl|rfl
                ·exact λf hf i _=>(uh HLA2) f hf
                ·exact(uh HLA3)
                ·exact(uh HLA4)⟩)
              have HKC:Hid (Kb 0 w2 wr):=kwj;clear HY hY c kj kwj k26 b6 rw6 rm6 HCO HNA HIN HFN HBD HBOX  HXP HB6;go_wp2_with fail
              refine HC.mono ?_;rintro e w5 ⟨rfl,k5⟩;have HKC5:Hid (Kb 0 w2 w5):=(uh HKC).trans k5;clear HC k5 HKC c2;go_wp2_with fail;have KCUR:=(uh HKC5)
              have HRES1:=(uh HRES)
              refine(sp_fault 5 (p:Int) (j:Int) _).mono ?_;rintro e w9 ⟨rfl,k9⟩;have r0:w9.cell? ⟨w.heap.size+1,0,none⟩=some (.int .i64 0):=k9.cell (HRES1 _ KCUR).1;have r1:w9.cell? ⟨w.heap.size+1,1,none⟩=some (.int .i64 0):=k9.cell (HRES1 _ KCUR).2.1;have r2:w9.cell? ⟨w.heap.size+1,2,none⟩=some (.int .i64 0):=k9.cell (HRES1 _ KCUR).2.2.1;have fr:∀j,w9.frozen? ⟨w.heap.size+1,j,none⟩=false:=λj=>(HRES1 w9 (KCUR.trans k9)).2.2.2.1 j;have HKW:Hid (Kb 0 w w9/\w.heap.size+1<w9.heap.size):=(⟨(HRES1 w9 (KCUR.trans k9)).2.2.2.2.1,(HRES1 w9 (KCUR.trans k9)).2.2.2.2.2⟩:_/\_)
              clear k9 KCUR HRES1 HRES;go_wp2_with fail;refine bodyPost_ret (by simp[results,Tryz.results59,go_sem,r0,r1,r2];rfl) rfl ?_;exact⟨_,_,_,rfl,HAN0,(((show Kb 0 w w9 from HKW.1).setCell ⟨w.heap.size+1,0,none⟩ (Or.inr (by show w.heap.size<=w.heap.size+1;omega)) _).setCell ⟨w.heap.size+1,1,none⟩ (Or.inr (by show w.heap.size<=w.heap.size+1;omega)) _).setCell ⟨w.heap.size+1,2,none⟩ (Or.inr (by show w.heap.size<=w.heap.size+1;omega)) _⟩
            ·have hI2:¬(j:Int)<((F p).n:Int):=by omega
             have HX4:Hid (Kb 0 w2 wr/\(∀g,g<p+1->∀y,y<(F g).n->Iok np (F g) y)/\∀g,g<(p+1)->(F g).n≠0):=by
              have hXP:=(uh HXP)
              exact(show _/\_ from⟨k26.trans kj,λg hg y hy=>by
               by_cases e:g=p
               ·subst e;exact hY y (by omega)
               ·exact hXP.1 g (by omega) y hy,λg hg=>by
               by_cases e:g=p
               ·subst e;omega
               ·exact hXP.2 g (by omega)⟩)
             clear HY hY kj k26 b6 rw6 rm6 HRES HCO HNA HIN HFN HBD HBOX HXP HB6;go_wp2_with fail;go_roundw
             case rel=>exact⟨p+1,by go_num,by omega,HX4⟩
             case measure=>simp[intOf];omega
          ·obtain rfl:np=p:=by omega
           have hI:¬(np:Int)<(np:Int):=by omega
           have HLA5:Hid ((∀g,g<np->∀y,y<(F g).n->Iok np (F g) y)/\∀g,g<np->(F g).n≠0):=(⟨hX,hX2⟩:_/\_)
           have HKC:Hid (Kb 0 w2 wr):=kw;clear HX hX kw h hX2;have r0:wr.cell? ⟨w.heap.size+1,0,none⟩=some (.int .i64 0):=((uh HRES) wr HKC).1;have r1:wr.cell? ⟨w.heap.size+1,1,none⟩=some (.int .i64 0):=((uh HRES) wr HKC).2.1;have r2:wr.cell? ⟨w.heap.size+1,2,none⟩=some (.int .i64 0):=((uh HRES) wr HKC).2.2.1;have fr:∀j,wr.frozen? ⟨w.heap.size+1,j,none⟩=false:=λj=>((uh HRES) wr HKC).2.2.2.1 j;have HKW:Hid (Kb 0 w wr):=((uh HRES) wr HKC).2.2.2.2.1
           have HAN:Hid (Ans 5 np F 0 0 0):=by
            have hXP:=(uh HLA5)
            refine Or.inr (Or.inr ⟨HSZ,rfl,rfl,rfl,λc' h1 h3=>?_⟩);rcases(by omega:c'=2\/c'=3\/c'=4\/c'=5)with rfl|rfl|rfl|rfl
            ·exact λf hf i _=>(uh HLA2) f hf
            ·exact(uh HLA3)
            ·exact(uh HLA4)
            ·exact λg hg y hy=>⟨hXP.2 g hg,hXP.1 g hg y (by have e:L5 F g=(F g).n:=if_neg (hXP.2 g hg);have hy:y<L5 F g:=hy;omega)⟩
           clear HRES HKC HLA2 HLA3 HLA4 HLA5 HCO HNA HIN HFN HBD HBOX;go_wp2_with fail;refine bodyPost_ret (by simp[results,Tryz.results59,go_sem,r0,r1,r2];rfl) rfl ?_;exact⟨0,0,0,rfl,HAN,(((uh HKW).setCell ⟨w.heap.size+1,0,none⟩ (Or.inr (by show w.heap.size<=w.heap.size+1;omega)) _).setCell ⟨w.heap.size+1,1,none⟩ (Or.inr (by show w.heap.size<=w.heap.size+1;omega)) _).setCell ⟨w.heap.size+1,2,none⟩ (Or.inr (by show w.heap.size<=w.heap.size+1;omega)) _⟩
