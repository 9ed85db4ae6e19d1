import Derived.Test.YtkhdehngobkkfaaGreatDoorASkk
set_option maxRecDepth 100000
set_option maxHeartbeats 8000000
namespace Go.Proofs.YtkhdehngobkkfaaGreatDoor.Fo
open Go.ChangeShapes Go.WideShapes Go.ChangeAt Go.RowKit
set_option linter.unusedVariables false
variable {n:Nat}
theorem Dv.low{w w4 W:World}{g:Nat}{D:Nat->Int}(h:Dv w4 g n D W)(hb:Below w.heap.size w w4)(hg:w.heap.size<=g):Below w.heap.size w W:=
 ⟨h.kq.os.trans hb.os,h.kq.tape.trans hb.tape,h.kq.output.trans hb.output,Nat.le_trans hb.size h.kq.size,λb hl=>(h.kq.block b (Nat.lt_of_lt_of_le hl hb.size) (by omega)).trans (hb.block b hl)⟩
theorem sp_sheet{nm fl:ByteArray->Prop}(HN:NmS nm)(HFL:FlS fl){v:Value}{F:Nat->Gv}(w:World)(hf:RowF w v n F)(hn:n<=1048576)(hp:∀i,i<n->(F i).p<=1048576)(hq:∀i,i<n->(F i).q<=1048576):
  Calls Tryz.prog 10 #[.agg #[v]] w λe w'=>∃c f,e=.returned (.agg #[.int .i64 c,.int .i64 f])/\Fl nm fl F n c f/\Below w.heap.size w w':=by
 obtain⟨pf,cf,rfl,hf2⟩:=hf;have HF:Hid (RowF w (.slice pf n cf) n F):=⟨pf,cf,rfl,hf2⟩
 obtain⟨W2,hW2⟩:∃W2,W2=(w.alloc (.cells #[.slice pf n cf] 29)).alloc (.cells #[.int .i64 0,.int .i64 0] 35):=⟨_,rfl⟩
 have hs2:Rs W2 w.heap.size (.slice pf n cf):=by rw[hW2];exact Rs.new _ _ _ _
 have hb2:Below w.heap.size w W2:=by rw[hW2];exact bel2 _ _ _
 have HS2:Hid (Rs W2 w.heap.size (.slice pf n cf)/\Below w.heap.size w W2):=(⟨hs2,hb2⟩:_/\_)
 have HO:Hid (NmS nm/\FlS fl/\n<=1048576/\(∀i,i<n->(F i).p<=1048576)/\(∀i,i<n->(F i).q<=1048576)):=(⟨HN,HFL,hn,hp,hq⟩:_/\_/\_/\_/\_)
 have hnI:(n:Int)<=1048576:=by omega
 clear HN HFL hn hp hq;by_cases h0:n=0\/3000<n\/(0<n/\(F (n-1)).a.k≠1)
 ·have HX:Hid (Fl nm fl F n 1 0):=Fl.none0 h0;have c0:=hs2.ct;have c1:=hs2.r0;have c2:=hs2.r1;have c3:=hs2.z0;have c4:=hs2.z1;clear hs2;rcases Nat.eq_zero_or_pos n with g0|g0
  ·subst g0;clear hf2 hnI h0 hb2;go_enter Tryz.func10,Tryz.ntmps10;go_wp2_with fail;go_returns;exact⟨1,0,by first|rfl|simp,HX,bel2 _ _ _⟩
  ·have g0':((n:Int)==0)=false:=bne (by omega);rcases Nat.lt_or_ge 3000 n with g1|g1
   ·have g1':3000<(n:Int):=by omega
    clear hf2 h0 hb2;go_enter Tryz.func10,Tryz.ntmps10;go_wp2_with fail;go_returns;exact⟨1,0,by first|rfl|simp,HX,bel2 _ _ _⟩
   ·have g1':¬3000<(n:Int):=by omega
    have hk:(F (n-1)).a.k≠1:=by omega
    obtain⟨c,rfl,hcc,hrc⟩:=hf2 g0;obtain⟨vn,vk,hc,_,_⟩:=(hrc (n-1) (by omega)).below ((by rw[hW2]at hb2;exact hb2):Below w.heap.size w ((w.alloc (.cells #[.slice (some c) n cf] 29)).alloc (.cells #[.int .i64 0,.int .i64 0] 35)));obtain⟨m,hm⟩:∃m:Nat,m=n-1:=⟨_,rfl⟩
    rw[<-hm]at hc hk;have hm1:(n:Int)-1=(m:Int):=by omega
    have hm2:(m:Int)<(n:Int):=by omega
    have hk':((F m).a.k !=1)=true:=bne_iff_ne.2 hk;obtain⟨d0,d1,d2,d3,d4,d5,d6,d7,d8⟩:=hc;clear hf2 h0 hrc hk hm;go_enter Tryz.func10,Tryz.ntmps10;go_wp2_with fail;go_returns;exact⟨1,0,by first|rfl|simp,HX,bel2 _ _ _⟩
 ·have h1:0<n:=by omega
  have h2:n<=3000:=by omega
  have h3:(F (n-1)).a.k=1:=by
   rcases Classical.em ((F (n-1)).a.k=1)with e|e
   ·exact e
   ·exact absurd (Or.inr (Or.inr ⟨h1,e⟩)) h0
  have HP:Hid (0<n/\n<=3000/\(F (n-1)).a.k=1):=(⟨h1,h2,h3⟩:_/\_/\_)
  obtain⟨c,rfl,hcc,hrc⟩:=hf2 h1;have HRC:Hid (∀i,i<n->FormC w (c.add (i*9)) (F i)):=hrc;obtain⟨vn,vk,hc,_,_⟩:=(hrc (n-1) (by omega)).below ((by rw[hW2]at hb2;exact hb2):Below w.heap.size w ((w.alloc (.cells #[.slice (some c) n cf] 29)).alloc (.cells #[.int .i64 0,.int .i64 0] 35)));obtain⟨m,hm⟩:∃m:Nat,m=n-1:=⟨_,rfl⟩
  have HM:Hid (m=n-1):=hm;rw[<-hm]at hc h3;have hm1:(n:Int)-1=(m:Int):=by omega
  have hm2:(m:Int)<(n:Int):=by omega
  have g0':((n:Int)==0)=false:=bne (by omega);have g1':¬3000<(n:Int):=by omega
  have hk':((F m).a.k !=1)=false:=by rw[h3];rfl
  obtain⟨d0,d1,d2,d3,d4,d5,d6,d7,d8⟩:=hc;clear hf2 h0 hrc hm h3 d1 d2 d3 d4 d5 d6 d7 d8 hs2 hb2 h2;go_enter Tryz.func10,Tryz.ntmps10;go_wp2_with fail;rw[<-hW2];clear hW2 d0 g0' g1' hk'
  go_loopw [39] (λsr wr=>∃i:Nat,sr=.int .i64 i/\i<=n/\Hid (Rs wr w.heap.size (.slice (some c) n cf)/\Below w.heap.size w wr/\∀j,j<i->ndk nm fl F j)) (λsr _=>n-(intOf sr).toNat)
  case atStart=>exact⟨0,rfl,Nat.zero_le _,(⟨HS2.1,HS2.2,λj hj=>by omega⟩:_/\_/\_)⟩
  case round=>
   clear HS2;obtain⟨i,rfl,hin,HI⟩:=hrel;obtain⟨hr,hb,ha⟩:=(uh HI)
   obtain⟨o1,o2,o3,o4,o5⟩:=(uh HO)
   have c0:=hr.ct;rcases Nat.lt_or_ge i n with hi|hi
   ·have hiI:(i:Int)<(n:Int):=by omega
    have HC:Hid (Calls Tryz.prog 20 #[.agg #[.slice (some c) n cf],.int .i64 i] wr λe w'=>e=.returned (.bool (dc (ndk nm fl F i)))/\Below wr.heap.size wr w'):=sp_node o1 o2 wr ((uh HF).below hb) i hi o3 (o4 i hi) (o5 i hi);clear hr hb ha o1 o2 o3 o4 o5;go_wp2_with fail;refine(uh HC).mono ?_;rintro e w1 ⟨rfl,b1⟩;obtain⟨hr,hb,ha⟩:=(uh HI)
    have hr1:=hr.below b1;have hb1:Below w.heap.size w w1:=hb.trans (b1.mono hb.size);clear HI HC c0;by_cases hd:ndk nm fl F i
    ·rw[dc_t hd]
     have HX:Hid (Rs w1 w.heap.size (.slice (some c) n cf)/\Below w.heap.size w w1/\∀j,j<i+1->ndk nm fl F j):=(⟨hr1,hb1,λj hj=>by
      by_cases e:j=i
      ·rw[e];exact hd
      ·exact ha j (by omega)⟩:_/\_/\_)
     clear hr hb ha hr1 hb1 b1 hd;go_wp2_with fail;go_roundw
     case rel=>exact⟨i+1,by go_num,by omega,HX⟩
     case measure=>simp[intOf];omega
    ·rw[dc_f hd];have HX:Hid (Fl nm fl F n 2 (i:Int)/\Below w.heap.size w ((w1.setCell ⟨w.heap.size+1,0,none⟩ (.int .i64 2)).setCell ⟨w.heap.size+1,1,none⟩ (.int .i64 i))):=(⟨Fl.shape i HP.1 HP.2.1 HP.2.2 hi ha hd,(hr1.ret hb1 2 (i:Int)).2.2⟩:_/\_)
     have e0:=(hr1.ret hb1 2 (i:Int)).1;have e1:=(hr1.ret hb1 2 (i:Int)).2.1;have c1:=hr1.r0;have c2:=hr1.r1;have c3:=hr1.z0;have c4:=hr1.z1;clear hr hb ha hr1 hb1 b1 hd;go_wp2_with fail;refine bodyPost_ret (by simp[results,Tryz.results10,go_sem,e0,e1];rfl) rfl ?_;exact⟨2,(i:Int),rfl,HX.1,HX.2⟩
   ·have ei:i=n:=by omega
    rw[ei]at ha⊢;clear HI;have HK:Hid (Kn F n):=(λi hi=>(ha i hi).2.2.2.2.1:∀i,i<n->∀j,j<(F i).q->0<=(F i).K j/\(F i).K j<(i:Int))
    have HC:Hid (Calls Tryz.prog 21 #[.agg #[.slice (some c) n cf]] wr λe w'=>∃u g,e=.returned u/\OwnR w' u g n (λk=>.int .i64 (szl F n k))/\Below wr.heap.size wr w'/\wr.heap.size<=g/\g<w'.heap.size):=sp_sizes wr ((uh HF).below hb) o3 HK o5;have HI:Hid (Rs wr w.heap.size (.slice (some c) n cf)/\Below w.heap.size w wr/\∀j,j<n->ndk nm fl F j):=(⟨hr,hb,ha⟩:_/\_/\_)
    clear hr hb ha o1 o2 o3 o4 o5 hi ei hin;go_wp2_with fail;refine(uh HC).mono ?_;rintro e w3 ⟨u,g,rfl,hu,b3,hg1,hg2⟩;obtain⟨hr,hb,ha⟩:=(uh HI)
    have hr3:=hr.below b3;have hb3:Below w.heap.size w w3:=hb.trans (b3.mono hb.size);have HI3:Hid (Rs w3 w.heap.size (.slice (some c) n cf)/\Below w.heap.size w w3/\∀j,j<n->ndk nm fl F j):=(⟨hr3,hb3,ha⟩:_/\_/\_)
    obtain⟨pu,cu,rfl,hu2⟩:=hu.sl;obtain⟨rfl,hcu⟩:=hu2 h1;have HU:Hid (∀i,i<n->w3.cell? ⟨g,i,none⟩=some (.int .i64 (szl F n i))):=hu.cell;have hcuI:(n:Int)<=(cu:Int):=by omega
    clear HI HC c0 hr hb ha hr3 hb3 b3 hu hu2 hg1 hg2;go_wp2_with fail
    go_loopw [53] (λsr wv=>∃i:Nat,sr=.int .i64 i/\i<=n/\wv=w3/\Hid (∀j,j<i->szl F n j≠0)) (λsr _=>n-(intOf sr).toNat)
    case atStart=>exact⟨0,rfl,Nat.zero_le _,rfl,(λj hj=>by omega:∀j,j<0->szl F n j≠0)⟩
    case round=>
     obtain⟨i,rfl,hin,rfl,HZ⟩:=hrel;rcases Nat.lt_or_ge i n with hi|hi
     ·have hiI:(i:Int)<(n:Int):=by omega
      have q0:=(uh HU) i hi;by_cases hz:szl F n i=0
      ·have hz':(szl F n i==0)=true:=beq1 hz;obtain⟨hr1,hb1,ha⟩:=(uh HI3)
       have HX:Hid (Fl nm fl F n 3 (i:Int)/\Below w.heap.size w ((wr.setCell ⟨w.heap.size+1,0,none⟩ (.int .i64 3)).setCell ⟨w.heap.size+1,1,none⟩ (.int .i64 i))):=(⟨Fl.order i HP.1 HP.2.1 HP.2.2 ha hi HZ hz,(hr1.ret hb1 3 (i:Int)).2.2⟩:_/\_)
       have e0:=(hr1.ret hb1 3 (i:Int)).1;have e1:=(hr1.ret hb1 3 (i:Int)).2.1;have c1:=hr1.r0;have c2:=hr1.r1;have c3:=hr1.z0;have c4:=hr1.z1;clear hr1 hb1 ha hz HZ HU;generalize szl F n i=z at*;go_wp2_with fail;refine bodyPost_ret (by simp[results,Tryz.results10,go_sem,e0,e1];rfl) rfl ?_;exact⟨3,(i:Int),rfl,HX.1,HX.2⟩
      ·have hz':(szl F n i==0)=false:=bne hz
       have HX:Hid (∀j,j<i+1->szl F n j≠0):=(λj hj=>by
        by_cases e:j=i
        ·rw[e];exact hz
        ·exact HZ j (by omega):∀j,j<i+1->szl F n j≠0)
       clear hz HZ HU;generalize szl F n i=z at*;go_wp2_with fail;go_roundw
       case rel=>exact⟨i+1,by go_num,by omega,by trivial,HX⟩
       case measure=>simp[intOf];omega
     ·have ei:i=n:=by omega
      have HZ2:Hid (∀j,j<n->szl F n j≠0):=(λj hj=>HZ j (by omega):∀j,j<n->szl F n j≠0)
      have hm':=(uh HM)
      have q0:=(uh HU) m (by omega);rw[ei];clear HZ hi ei hin HU hm';by_cases hz:szl F n m=(n:Int)
      ·have hz':(szl F n m !=(n:Int))=false:=by rw[hz];simp
       have HZ3:Hid (szl F n (n-1)=(n:Int)):=by rw[<-show m=n-1 from HM];exact hz
       rw[hz]at q0;clear hz hz';have hnn:((n:Int) !=(n:Int))=false:=by simp
       obtain⟨hr1,hb1,ha⟩:=(uh HI3)
       have hct:=hr1.ct;have hmk:=run_make (P:=Tryz.prog) wr 42 3 Tryz.t3 (.int .i64 0) Tryz.underlying42 (by kernel_rfl) (by kernel_rfl) .i64 .i64 (n:Int) (n:Int) (by omega) (Int.le_refl _) (by show(8:Int)*(n:Int)<=_;omega) (by omega);rw[Int.toNat_natCast]at hmk;obtain⟨w4,hw4⟩:∃w4,w4=wr.alloc (.cells (madeCells (.int .i64 0:Value).cells (n*Tryz.t3.size)) 3):=⟨_,rfl⟩
       rw[<-hw4]at hmk;obtain⟨G,hG⟩:∃G,G=wr.heap.size:=⟨_,rfl⟩
       have b4:Below wr.heap.size wr w4:=by rw[hw4];exact bel1 _ _
       have hl:w.heap.size+1<wr.heap.size:=lt_of_cell hr1.r0;have HI4:Hid (Rs w4 w.heap.size (.slice (some c) n cf)/\Below w.heap.size w w4/\w.heap.size+1<G/\Dv w4 G n (dpr F n 0) w4/\∀j,j<n->ndk nm fl F j):=(⟨hr1.below b4,hb1.trans (b4.mono hb1.size),by omega,⟨Kq.refl _ _,λj hj=>by rw[hw4,hG];exact made_cell wr _ 3 n rfl j hj,λj=>by rw[hw4,hG];exact made_fz _ _ _ _⟩,ha⟩:_/\_/\_/\_/\_)
       have hct4:=(hr1.below b4).ct;rw[<-hG]at hmk;clear hr1 hb1 ha b4 hw4 hl HI3 hG;go_wp2_with fail;clear hmk hct q0 hnn hct4
       go_loopw [8] (λsr wv=>∃k:Nat,sr=.int .i64 ((k:Int)-1)/\k<=n/\Hid (Dv w4 G n (dpr F n (n-k)) wv)) (λsr _=>((intOf sr)+1).toNat)
       case atStart=>exact⟨n,by first|rfl|rw[hm1],Nat.le_refl _,by rw[Nat.sub_self];exact HI4.2.2.2.1⟩
       case round=>
        obtain⟨k,rfl,hkn,HD⟩:=hrel;obtain⟨hr4,hb4,hg4,_,ha⟩:=(uh HI4)
        have hD:=(uh HD)
        have hrW:=hr4.kq hD.kq hg4;have hbW:=hD.low hb4 (by omega);have hct:=hrW.ct;cases k with
        |succ k=>
         rw[show(((k+1:Nat):Int)-1)=(k:Int)from by omega];have hkI:(k:Int)<(n:Int):=by omega
         obtain⟨vn,vk,hc,_,hrk⟩:=(uh HRC) k (by omega);obtain⟨pk,ck,rfl,hk2⟩:=hrk;obtain⟨d0,d1,d2,d3,d4,d5,d6,d7,d8⟩:=hc.below hbW;have hqI:((F k).q:Int)<=1048576:=by have:=(ha k (by omega)).2.2.2.1;omega
         have HKC:Hid (∀j,j<(F k).q->0<=(F k).K j/\(F k).K j<(k:Int)/\∃b:Addr,pk=some b/\(F k).q<=ck/\∀W',Below w.heap.size w W'->W'.cell? (b.add j)=some (.int .i64 ((F k).K j))):=(λj hj=>by
          obtain⟨b,rfl,h1,h2⟩:=hk2 (by omega);have h3:=(ha k (by omega)).2.2.2.2.1 j hj
          exact⟨h3.1,h3.2,b,rfl,h1,λW' hb=>(hb.cell (lt_of_cell' (h2 j hj))).trans (h2 j hj)⟩:∀j,_)
         obtain⟨D,hDe⟩:∃D,D=dpr F n (n-(k+1)):=⟨_,rfl⟩
         rw[<-hDe]at hD
         have hDk:0<=D k/\D k<=3000:=by
          rw[hDe];have:=dpr_in F n (n-(k+1)) k;have:=HP.2.1;omega
         have HN:Hid (∀wv,Dv w4 G n (upd D (F k).K (D k+1) (F k).q) wv->Dv w4 G n (dpr F n (n-k)) wv):=(λwv h=>by
          have e1:n-k=(n-(k+1))+1:=by omega
          have e2:n-1-(n-(k+1))=k:=by omega
          have e3:dpr F n (n-k)=upd D (F k).K (D k+1) (F k).q:=by
           rw[e1]
           funext x
           show upd (dpr F n (n-(k+1))) (F (n-1-(n-(k+1)))).K (dpr F n (n-(k+1)) (n-1-(n-(k+1)))+1) (F (n-1-(n-(k+1)))).q x=_;rw[e2,<-hDe]
          rw[e3];exact h:∀wv,_)
         have HD0:Hid (Dv w4 G n (upd D (F k).K (D k+1) 0) wr):=hD;have HL:Hid (k+1<=n):=hkn;have HB4:Hid (Below w.heap.size w w4/\w.heap.size+1<G):=(⟨hb4,hg4⟩:_/\_)
         clear hr4 hb4 hg4 ha hD hrW hbW hc hk2 hkn HD hDe d0 d1 d2 d3 d4 d5 d6 d7;go_wp2_with fail;clear d8 hct
         go_loopw [95] (λsr wv=>∃j:Nat,sr=.int .i64 j/\j<=(F k).q/\Hid (Dv w4 G n (upd D (F k).K (D k+1) j) wv)) (λsr _=>(F k).q-(intOf sr).toNat)
         case atStart=>exact⟨0,rfl,Nat.zero_le _,HD0⟩
         case round=>
          clear HD0;obtain⟨j,rfl,hjq,HJ⟩:=hrel;have hJ:=(uh HJ)
          rcases Nat.lt_or_ge j (F k).q with hj|hj
          ·have hjI:(j:Int)<((F k).q:Int):=by omega
           obtain⟨k0,k1,b,rfl,hcb,kc⟩:=(uh HKC) j hj;have q0:=kc wr (hJ.low HB4.1 (by have:=HB4.2;omega));obtain⟨x,hx⟩:∃x:Nat,(F k).K j=(x:Int):=⟨((F k).K j).toNat,by omega⟩
           rw[hx]at q0;have q1:=hJ.cell k (by omega);rw[upd_far j (λj' hj'=>((uh HKC) j' (by omega)).2.1)]at q1;have q2:=hJ.cell x (by omega);have q3:=hJ.fz x;have hxn:(x:Int)<(n:Int):=by omega
           have HX:Hid (Dv w4 G n (upd D (F k).K (D k+1) (j+1)) (wr.setCell ⟨G,x,none⟩ (.int .i64 (D k+1)))):=hJ.set x (by omega) (D k+1) _ (λy hy=>by
            show(if(y:Int)=(F k).K j then D k+1 else upd D (F k).K (D k+1) j y)=_;rw[hx];by_cases e:y=x
            ·rw[if_pos (by omega),if_pos e]
            ·rw[if_neg (by omega),if_neg e])
           clear hJ HJ kc k0 k1 hx HKC HN;generalize D k=z at*;generalize upd D (F k).K (z+1) j x=z2 at*;go_wp2_with fail;go_roundw
           case rel=>exact⟨j+1,by go_num,by omega,HX⟩
           case measure=>simp[intOf];omega
          ·have ej:j=(F k).q:=by omega
           have HX:Hid (Dv w4 G n (dpr F n (n-k)) wr):=HN wr (by rw[<-ej];exact HJ);rw[ej];clear hJ HJ HKC HN ej hj hjq;go_wp2_with fail;go_roundw
           case rel=>exact⟨k,by first|rfl|go_num,by have:=(uh HL);omega,HX⟩
           case measure=>simp[intOf]
        |zero=>
         rw[show(((0:Nat):Int)-1)=-1 from rfl];have HI5:Hid (Rs wr w.heap.size (.slice (some c) n cf)/\Below w.heap.size w wr/\∀j,j<n->ndk nm fl F j):=(⟨hrW,hbW,ha⟩:_/\_/\_)
         have HU5:Hid (∀i,i<n->wr.cell? ⟨G,i,none⟩=some (.int .i64 (dpr F n n i))):=hD.cell;clear hr4 hb4 hg4 ha hD hrW hbW HD hkn HI4;go_wp2_with fail;clear hct;obtain⟨w5,hw5⟩:∃w5,w5=wr:=⟨_,rfl⟩
         rw[<-hw5];rw[<-hw5]at HI5 HU5;clear hw5
         go_loopw [110] (λsr wv=>∃i:Nat,sr=.int .i64 i/\i<=n/\wv=w5/\Hid (∀j,j<i->dpr F n n j<=100)) (λsr _=>n-(intOf sr).toNat)
         case atStart=>exact⟨0,rfl,Nat.zero_le _,rfl,(λj hj=>by omega:∀j,j<0->dpr F n n j<=100)⟩
         case round=>
          obtain⟨i,rfl,hin,rfl,HZ⟩:=hrel;obtain⟨hr1,hb1,ha⟩:=(uh HI5)
          have c1:=hr1.r0;have c2:=hr1.r1;have c3:=hr1.z0;have c4:=hr1.z1;rcases Nat.lt_or_ge i n with hi|hi
          ·have hiI:(i:Int)<(n:Int):=by omega
           have q0:=(uh HU5) i hi;rcases Int.lt_or_le 100 (dpr F n n i)with hz|hz
           ·have HX:Hid (Fl nm fl F n 4 (i:Int)/\Below w.heap.size w ((wr.setCell ⟨w.heap.size+1,0,none⟩ (.int .i64 4)).setCell ⟨w.heap.size+1,1,none⟩ (.int .i64 i))):=(⟨Fl.depth i HP.1 HP.2.1 HP.2.2 ha HZ2 HZ3 hi HZ hz,(hr1.ret hb1 4 (i:Int)).2.2⟩:_/\_)
            have e0:=(hr1.ret hb1 4 (i:Int)).1;have e1:=(hr1.ret hb1 4 (i:Int)).2.1;clear hr1 hb1 ha HZ HU5;generalize dpr F n n i=z at*;go_wp2_with fail;refine bodyPost_ret (by simp[results,Tryz.results10,go_sem,e0,e1];rfl) rfl ?_;exact⟨4,(i:Int),rfl,HX.1,HX.2⟩
           ·have hz':¬100<dpr F n n i:=by omega
            have HX:Hid (∀j,j<i+1->dpr F n n j<=100):=(λj hj=>by
             by_cases e:j=i
             ·rw[e];exact hz
             ·exact HZ j (by omega):∀j,j<i+1->dpr F n n j<=100)
            clear hr1 hb1 ha HZ HU5 c1 c2 c3 c4;generalize dpr F n n i=z at*;go_wp2_with fail;go_roundw
            case rel=>exact⟨i+1,by go_num,by omega,by trivial,HX⟩
            case measure=>simp[intOf];omega
          ·have ei:i=n:=by omega
           have HX:Hid (Fl nm fl F n 0 0/\Below w.heap.size w ((wr.setCell ⟨w.heap.size+1,0,none⟩ (.int .i64 0)).setCell ⟨w.heap.size+1,1,none⟩ (.int .i64 0))):=(⟨Fl.sound HP.1 HP.2.1 HP.2.2 ha HZ2 HZ3 (λj hj=>HZ j (by omega)),(hr1.ret hb1 0 0).2.2⟩:_/\_)
           have e0:=(hr1.ret hb1 0 0).1;have e1:=(hr1.ret hb1 0 0).2.1;rw[ei];clear hr1 hb1 ha HZ HU5 ei hin hi;go_wp2_with fail;refine bodyPost_ret (by simp[results,Tryz.results10,go_sem,e0,e1];rfl) rfl ?_;exact⟨0,0,rfl,HX.1,HX.2⟩
      ·have hz':(szl F n m !=(n:Int))=true:=bne_iff_ne.2 hz;obtain⟨hr1,hb1,ha⟩:=(uh HI3)
       have HX:Hid (Fl nm fl F n 3 (m:Int)/\Below w.heap.size w ((wr.setCell ⟨w.heap.size+1,0,none⟩ (.int .i64 3)).setCell ⟨w.heap.size+1,1,none⟩ (.int .i64 m))):=(⟨by rw[<-hm1];exact Fl.whole HP.1 HP.2.1 HP.2.2 ha HZ2 (by rw[<-show m=n-1 from HM];exact hz),(hr1.ret hb1 3 (m:Int)).2.2⟩:_/\_)
       have e0:=(hr1.ret hb1 3 (m:Int)).1;have e1:=(hr1.ret hb1 3 (m:Int)).2.1;have c1:=hr1.r0;have c2:=hr1.r1;have c3:=hr1.z0;have c4:=hr1.z1;clear hr1 hb1 ha hz;generalize szl F n m=z at*;go_wp2_with fail;refine bodyPost_ret (by simp[results,Tryz.results10,go_sem,e0,e1];rfl) rfl ?_;exact⟨3,(m:Int),rfl,HX.1,HX.2⟩
