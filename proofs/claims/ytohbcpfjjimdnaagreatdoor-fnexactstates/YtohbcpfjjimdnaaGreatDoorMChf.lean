import Derived.Test.YtohbcpfjjimdnaaGreatDoorMChe
import Derived.Test.YtohbcpfjjimdnaaGreatDoorMCde
set_option maxHeartbeats 16000000
namespace Go.Proofs.YtohbcpfjjimdnaaGreatDoor.Fo
open Go.ChangeShapes Go.WideShapes Go.ChangeAt Go.RowKit
set_option linter.unusedVariables false
set_option maxRecDepth 100000
variable {B np ca nf c f:Nat}{F:Nat->Pd}{L:List Int}{v m:Value}{w W W':World}{A:Addr}
theorem im_unmade{p:Nat}(w:World)(hz:Zt B 1 L v m w)(hL:∀x,x ∈ L↔MB F np 0 x)(hp:p<=1048576):
  Calls Tryz.prog 76 #[.pointer (some ⟨B,0,none⟩),.int .i64 p] w λe w'=>∃r:Int,e=.returned (.int .i64 r)/\Fb (λ_=>P7 np F p) 1 r/\Kb 0 w w':=by
 have HH:=λW (k:Kb 0 w W)=>im_has (p:Int) W (hz.on k);have HT:P7 np F p->Fb (λ_=>P7 np F p) 1 (-1):=λh=>.inl ⟨rfl,λ_ _=>h⟩;have HF:¬P7 np F p->Fb (λ_=>P7 np F p) 1 0:=λh=>.inr ⟨0,rfl,by omega,h,λi hi=>by omega⟩;by_cases h0:p=0
 ·have HX:=HT (.inl h0);have g0:((p:Int)==0)=true:=beq1 (by omega);clear HT HF HH hL hz;go_enter Tryz.func76,Tryz.ntmps76;go_wp2_with fail
  try go_quiet (skip)
  all_goals try go_wp2_with fail
  all_goals
   go_ret;exact⟨_,rfl,HX,by first|exact Kb.refl _ _|exact(Kb.refl _ _).drewN _⟩
 have g0:((p:Int)==0)=false:=bne (by omega);by_cases hm:(p:Int)∈ L
 ·have HX:=HT (.inr ((hL _).1 hm));rw[dc_t hm]at HH;clear HT HF hL hm;go_enter Tryz.func76,Tryz.ntmps76;go_wp2_with (first|(go_at_call 112;refine(HH _ (Kb.refl _ _)).mono ?_;rintro e w1 ⟨rfl,rfl⟩));go_ret;exact⟨_,rfl,HX,Kb.refl _ _⟩
 ·have HX:=HF (λq=>q.elim h0 (λq=>hm ((hL _).2 q)));rw[dc_f hm]at HH;clear HT HF hL hm;go_enter Tryz.func76,Tryz.ntmps76;go_wp2_with (first|(go_at_call 112;refine(HH _ (Kb.refl _ _)).mono ?_;rintro e w1 ⟨rfl,rfl⟩));go_ret;exact⟨_,rfl,HX,Kb.refl _ _⟩
theorem im_sized{pa:Option Addr}(w:World)(hpa:0<np->∃A:Addr,pa=some A/\np<=ca/\0<=A.block/\∀i,i<np->ProC 0 w (A.add (i*9)) (F i))(hb:Bd np F):
  Calls Tryz.prog 70 #[.agg #[.slice pa np ca]] w λe w'=>e=.returned (.bool (dc (Szu np F)))/\Kb 0 w w':=by
 have hnI:(np:Int)<=1048576:=by have:=hb.hnp;omega
 obtain⟨w1,hw1⟩:∃w1,w1=w.alloc (.cells #[.slice pa np ca] 30):=⟨_,rfl⟩
 have k1:Kb 0 w w1:=by rw[hw1];exact kb_alloc _ _ _
 have c0:w1.cell? ⟨w.heap.size,0,none⟩=some (.slice pa np ca):=by rw[hw1];exact cell_of (alloc_new _ _ _) rfl
 have HS:Hid (Kb 0 w w1/\w1.cell? ⟨w.heap.size,0,none⟩=some (.slice pa np ca)/\(0<np->∃A:Addr,pa=some A/\np<=ca/\∀i,i<np->ProC 0 w1 (A.add (i*9)) (F i))/\Bd np F):=(⟨k1,c0,λh=>by
  obtain⟨A,e,hc,-,hf⟩:=hpa h
  exact⟨A,e,hc,λi hi=>(hf i hi).keep zq k1⟩,hb⟩:_/\_)
 obtain⟨R,hR⟩:∃R,R=dc (Szu np F):=⟨_,rfl⟩
 rw[<-hR];have HR:Hid (R=dc (Szu np F)):=hR;have HW:Hid (w1=_):=hw1;clear hR hw1 k1 c0 hpa hb;go_enter Tryz.func70,Tryz.ntmps70;go_wp2_with fail;rw[<-(uh HW)];clear HW
 go_loopw [3,9] (λs3 s9 wr=>∃i:Nat,s9=.int .i64 i/\i<=np/\s3=.int .i64 (sm (λi=>(F i).n) i:Int)/\Hid (Kb 0 w1 wr)) (λ_ s9 _=>np-(intOf s9).toNat)
 case atStart=>exact⟨0,rfl,Nat.zero_le _,rfl,Kb.refl _ _⟩
 case round=>
  obtain⟨i,rfl,hi,rfl,HK⟩:=hrel;obtain⟨k1,c0,hfn,hb⟩:=(uh HS)
  have kw:=(uh HK)
  rcases Nat.lt_or_ge i np with h|h
  ·have hI:(i:Int)<(np:Int):=by omega
   obtain⟨A,rfl,hca,hf⟩:=hfn (by omega);obtain⟨vu,vc,vn,vd,⟨d0,d1,d2,d3,d4,d5,d6,d7,d8⟩,hvu,hvc,hvn,hvd⟩:=(hf i h).keep zq kw;obtain⟨pu,cu,rfl,-⟩:=hvu;obtain⟨pc,cc,rfl,-⟩:=hvc;obtain⟨pn,cn,rfl,-⟩:=hvn;obtain⟨pm,cm,rfl,-⟩:=hvd;have hs:=hb.hsm;have hmo:=sm_mono (λi=>(F i).n) (show i+1<=np from h);have hsu:sm (λi=>(F i).n) (i+1)=sm (λi=>(F i).n) i+(F i).n:=rfl;obtain⟨x,hx⟩:∃x,x=sm (λi=>(F i).n) i:=⟨_,rfl⟩
   have HX:Hid (sm (λi=>(F i).n) (i+1)=x+(F i).n):=by rw[hx];exact hsu
   have hx1:(x:Int)<=1048576:=by omega
   have hx2:(x:Int)+((F i).n:Int)<=1048576:=by omega
   rw[<-hx];have HK2:Hid (∀o,Kb 0 w1 (wr.alloc o)):=(λo=>kw.alloc o:∀o,_)
   clear hs hmo hsu hx HK HS k1 c0 hfn hb kw hf HR;go_wp2_with fail;go_roundw
   case rel=>exact⟨i+1,by go_num,by omega,by rw[show sm (λi=>(F i).n) (i+1)=x+(F i).n from HX];go_num,(uh HK2) _⟩
   case measure=>simp[intOf];omega
  ·obtain rfl:np=i:=by omega
   have hI:¬(np:Int)<(np:Int):=by omega
   have c2:=kw.cell c0;have hR:=(uh HR)
   obtain⟨x,hx⟩:∃x,x=sm (λi=>(F i).n) np:=⟨_,rfl⟩
   rw[<-hx];have hsz:Szu np F↔0<np/\np<=200/\x<=6000:=by unfold Szu;rw[<-hx]
   have HKW:Hid (Kb 0 w wr):=k1.trans kw;clear HK HS k1 c0 hfn hb kw HR hx h;by_cases h1:0<np
   rotate_left
   ·have hF:R=false:=by rw[hR];exact dc_f (λq=>h1 (hsz.1 q).1)
    subst hF;have g1:¬(0:Int)<(np:Int):=by omega
    clear hsz hR h1;go_wp2_with fail;go_ret;exact⟨rfl,HKW⟩
   have g1:(0:Int)<(np:Int):=by omega
   by_cases h2:np<=200
   rotate_left
   ·have hF:R=false:=by rw[hR];exact dc_f (λq=>h2 (hsz.1 q).2.1)
    subst hF;have g2:¬(np:Int)<=200:=by omega
    clear hsz hR h1 h2;go_wp2_with fail;go_ret;exact⟨rfl,HKW⟩
   have g2:(np:Int)<=200:=by omega
   by_cases h3:x<=6000
   ·have hF:R=true:=by rw[hR];exact dc_t (hsz.2 ⟨h1,h2,h3⟩)
    subst hF;have g3:(x:Int)<=6000:=by omega
    clear hsz hR h1 h2;go_wp2_with fail;go_ret;exact⟨by first|rfl|simp[g3]|simp[h3],HKW⟩
   ·have hF:R=false:=by rw[hR];exact dc_f (λq=>h3 (hsz.1 q).2.2)
    subst hF;have g3:¬(x:Int)<=6000:=by omega
    clear hsz hR h1 h2;go_wp2_with fail;go_ret;exact⟨by first|rfl|simp[g3]|simp[h3],HKW⟩
def mfn(c:Nat):Nat:=
 match c with
 |2=>71
 |3=>72
 |4=>73
 |5=>74
 |6=>75
 |_=>76
structure Cst (w:World) (A:Addr) (nf ca B:Nat) (F:Nat->Pd) (c f:Nat) (L:List Int) (v m:Value) (W:World):Prop where
 kb:Kb 0 w W
 cb:W.cell? ⟨B,0,none⟩=some (.slice (some A) nf ca)
 hB:w.heap.size<=B
 zt:Zt B 1 L v m W
 ob:Ob w.heap.size v m
 mak:c=6->(∀x,x ∈ L↔MB F f 0 x)
 fin:c=7->(∀x,x ∈ L↔MB F nf 0 x)
 len:c=6->L.length<=f*1048576
theorem Cst.on(h:Cst w A nf ca B F c f L v m W)(h8:c≠6)(k:Kb 0 W W'):Cst w A nf ca B F c (f+1) L v m W':=
 ⟨h.kb.trans k,k.cell h.cb,h.hB,h.zt.on k,h.ob,λe=>absurd e h8,h.fin,λe=>absurd e h8⟩
theorem Cst.alloc(h:Cst w A nf ca B F c f L v m W)(k:Kb 0 W W'):Cst w A nf ca B F c f L v m W':=
 ⟨h.kb.trans k,k.cell h.cb,h.hB,h.zt.on k,h.ob,h.mak,h.fin,h.len⟩
theorem Cst.lt(h:Cst w A nf ca B F c f L v m W):B<W.heap.size:=lt_of_cell' h.cb
theorem im_meth(hgd:Gd w)(hfn:∀i,i<nf->ProC 0 w (A.add (i*9)) (F i))(hb:Bd nf F)(hz:Szu nf F)(h2:2<=c)(h9:c<=7)(hf:f<nf)(hl:∀c',2<=c'->c'<c->La (PQ F nf c') (LQ F c') nf)(st:Cst w A nf ca B F c f L v m W):
    Calls Tryz.prog (mfn c) #[.pointer (some ⟨B,0,none⟩),.int .i64 f] W λe w'=>∃r:Int,e=.returned (.int .i64 r)/\Fb (PQ F nf c f) (LQ F c f) r/\∃v' m',Ks B 1 v m v' m' W w'/\(r=-1->∃L',Cst w A nf ca B F c (f+1) L' v' m' w'/\(c≠6->L'=L)):=by
  have hfW:=(hfn f hf).keep zq st.kb;have hBl:=st.lt
  have key:∀{e:Ending} {w':World} {P:Nat->Prop} {n:Nat} {r:Int},c≠6->e=.returned (.int .i64 r)->Fb P n r->Kb 0 W w'->(P=PQ F nf c f/\n=LQ F c f)->∃r:Int,e=.returned (.int .i64 r)/\Fb (PQ F nf c f) (LQ F c f) r/\∃v' m',Ks B 1 v m v' m' W w'/\(r=-1->∃L',Cst w A nf ca B F c (f+1) L' v' m' w'/\(c≠6->L'=L)):=by
    intro e w' P n r h8 he hr hk hP;obtain⟨rfl,rfl⟩:=hP;exact⟨r,he,hr,v,m,Ks.of_kb hk hBl,λ_=>⟨L,st.on h8 hk,λ_=>rfl⟩⟩
  have hh:2<c->(0<=(F f).g/\(F f).g<=250):=λh=>(show Hd f (F f)from hl 2 (by omega) h f hf 0 (show 0<1 by omega)).2.2.1;obtain⟨vu,vc,vn,vd,hce,hvu,hvc,hvn,hvd⟩:=hfW;have hvu1:=hvu;have hvc1:=hvc;have hvn1:=hvn;have hvd1:=hvd;obtain⟨pu,cu,rfl,-⟩:=hvu;obtain⟨pc,cc,rfl,-⟩:=hvc;obtain⟨pn,cn,rfl,-⟩:=hvn;obtain⟨pm,cm,rfl,-⟩:=hvd;rcases(show c=2\/c=3\/c=4\/c=5\/c=6\/c=7 by omega)with rfl|rfl|rfl|rfl|rfl|rfl
  · refine(im_whead W hf hb.hnp st.cb hce (hb.hu f hf) (hb.hc f hf) (hb.hg f hf)).mono ?_;rintro e w' ⟨r,he,hr,hk⟩;exact key (by omega) he hr hk ⟨rfl,rfl⟩
  · refine(im_wconst W hf hb.hnp st.cb hce hvc1 (hb.hc f hf) (hb.hC f hf)).mono ?_;rintro e w' ⟨r,he,hr,hk⟩;exact key (by omega) he hr hk ⟨rfl,rfl⟩
  · refine(im_wnamed W hf hb.hnp st.cb hce hvd1 (hb.hd f hf) (hb.hn f hf) (hh (by omega))).mono ?_;rintro e w' ⟨r,he,hr,hk⟩;exact key (by omega) he hr hk ⟨rfl,rfl⟩
  · refine(im_wins W hf hb.hnp st.cb (hgd.keep st.kb) hce hvn1 (hb.hu f hf) (hb.hc f hf) (hb.hn f hf) (hh (by omega))).mono ?_;rintro e w' ⟨r,he,hr,hk⟩;exact key (by omega) he (show Fb (PQ F nf 5 f) (LQ F 5 f) r from hr) hk ⟨rfl,rfl⟩
  · have hr6 : ∀ i, i < (F f).n → ((F f).N i).o = 11 → 0 ≤ ((F f).N i).b ∧ ((F f).N i).b ≤ (nf : Int) - 1 := fun i hi ho => by
      have h5:=hl 5 (by omega) (by omega) f hf i (by show i<L5 F f;unfold L5;split<;>omega);exact fn_rng (show P5 nf F f i from h5).2.1 ho
    have hlf:L.length<=9000000000:=by
      have h1:=st.len rfl;have h2:f<=200:=by have:=hz.2.1;omega
      have:f*1048576<=200*1048576:=Nat.mul_le_mul_right _ h2;omega
    refine(im_wfn w W hfn hf hb.hnp (hb.hn f hf) hb.hu hr6 ⟨st.kb,st.cb,st.hB,st.zt,st.ob⟩ (st.mak rfl) hlf).mono ?_;rintro e w' ⟨r,he,hr,v',m',hk,hN⟩;refine⟨r,he,hr,v',m',hk,λe1=>?_⟩;obtain⟨L',s1,s2,s3⟩:=hN e1;refine⟨L',⟨s1.kb,s1.cb,s1.hB,s1.zt,s1.ob,λ_=>s2,λe=>by omega,λ_=>?_⟩,λe=>absurd rfl e⟩;have h1:=st.len rfl;have h3:=hb.hn f hf;have:(f+1)*1048576=f*1048576+1048576:=Nat.succ_mul _ _;omega
  · refine(im_unmade (p:=f) W st.zt (st.fin rfl) (by have:=hb.hnp;omega)).mono ?_;rintro e w' ⟨r,he,hr,hk⟩;exact key (by omega) he (show Fb (PQ F nf 7 f) (LQ F 7 f) r from hr) hk ⟨rfl,rfl⟩
theorem im_shape{va:Value}(w:World)(hgd:Gd w)(ha:RowP 0 w va nf F)(hb:Bd nf F):
    Calls Tryz.prog 42 #[.agg #[va]] w λe w'=>∃c f n:Nat,e=.returned (.agg #[.int .i64 c,.int .i64 f,.int .i64 n])/\Ans 7 nf F c f n/\Kb 0 w w':=by
  have ha0:=ha;obtain⟨pa,ca,rfl,ha2⟩:=ha;have hnI:(nf:Int)<=1048576:=by have:=hb.hnp;omega
  obtain⟨w2,hw2⟩:∃w2,w2=(w.alloc (.cells #[.slice pa nf ca] 30)).alloc (.cells #[.int .i64 0,.int .i64 0,.int .i64 0] 39):=⟨_,rfl⟩
  have k2:Kb 0 w w2:=by rw[hw2];exact kb_alloc2 _ _ _ _
  have b0:w2.heap[w.heap.size]? =some (.cells #[.slice pa nf ca] 30 (0,0)):=by
    rw[hw2,(kb_alloc 0 _ _).block _ zq (by rw[World.size_alloc];omega)];exact alloc_new _ _ _
  have b1:w2.heap[w.heap.size+1]? =some (.cells #[.int .i64 0,.int .i64 0,.int .i64 0] 39 (0,0)):=by
    have e:(w.alloc (.cells #[.slice pa nf ca] 30)).heap.size=w.heap.size+1:=World.size_alloc _ _;rw[hw2,<-e];exact alloc_new _ _ _
  have sz2:w2.heap.size=w.heap.size+2:=by rw[hw2];simp
  have HRES:Hid (∀W,Kb 0 w2 W->W.cell? ⟨w.heap.size+1,0,none⟩=some (.int .i64 0)/\W.cell? ⟨w.heap.size+1,1,none⟩=some (.int .i64 0)/\W.cell? ⟨w.heap.size+1,2,none⟩=some (.int .i64 0)/\(∀j,W.frozen? ⟨w.heap.size+1,j,none⟩=false)/\Kb 0 w W/\w.heap.size+1<W.heap.size):=(λW k=>by
    have:=k.size
    exact⟨k.cell (cell_of b1 rfl),k.cell (cell_of b1 rfl),k.cell (cell_of b1 rfl),λj=>(k.frozen zq (by omega)).trans (frozen_of b1),k2.trans k,by omega⟩:∀W,_)
  have HBOX:Hid (∀W,Kb 0 w2 W->W.cell? ⟨w.heap.size,0,none⟩=some (.slice pa nf ca)):=(λW k=>k.cell (cell_of b0 rfl):∀W,_)
  have HSZ:Hid (Calls Tryz.prog 70 #[.agg #[.slice pa nf ca]] w2 λe w'=>e=.returned (.bool (dc (Szu nf F)))/\Kb 0 w2 w'):=(by obtain⟨pa',ca',e,h⟩:=ha0.keep k2;obtain⟨rfl,-,rfl⟩:pa=pa'/\nf=nf/\ca=ca':=(by simpa using e);exact im_sized w2 h hb)
  have HFN:Hid ((0<nf->∃a:Addr,pa=some a/\nf<=ca/\0<=a.block/\∀i,i<nf->ProC 0 w (a.add (i*9)) (F i))/\Bd nf F/\w2.heap.size=w.heap.size+2/\Kb 0 w w2):=(⟨ha2,hb,sz2,k2⟩:_/\_)
  have HW:Hid (w2=(w.alloc (.cells #[.slice pa nf ca] 30)).alloc (.cells #[.int .i64 0,.int .i64 0,.int .i64 0] 39)):=hw2;have u0:w2.cell? ⟨w.heap.size,0,none⟩=some (.slice pa nf ca):=cell_of b0 rfl;rw[hw2]at u0;clear ha2 ha0 hb hw2 k2 b0 b1 sz2;by_cases hz:Szu nf F
  case neg=>
    have HAN:Hid (Ans 7 nf F 1 0 0):=.inl ⟨rfl,rfl,rfl,hz⟩;rw[dc_f hz]at HSZ;clear hz;go_enter Tryz.func42,Tryz.ntmps42;go_wp2_with fail;rw[<-(uh HW)];clear HW u0;refine(uh HSZ).mono ?_;rintro e w3 ⟨rfl,k3⟩;obtain⟨r0,r1,r2,fr,kk,hlt⟩:=(uh HRES) w3 k3;have HKW:Hid (Kb 0 w w3):=kk;clear kk k3 HRES HBOX HSZ HFN;go_wp2_with fail;refine bodyPost_ret (by simp[results,Tryz.results42,go_sem,r0,r1,r2];rfl) rfl ?_;exact⟨1,0,0,rfl,HAN,(((uh HKW).setCell ⟨w.heap.size+1,0,none⟩ (Or.inr (by show w.heap.size<=w.heap.size+1;omega)) _).setCell ⟨w.heap.size+1,1,none⟩ (Or.inr (by show w.heap.size<=w.heap.size+1;omega)) _).setCell ⟨w.heap.size+1,2,none⟩ (Or.inr (by show w.heap.size<=w.heap.size+1;omega)) _⟩
  have hn0:0<nf:=hz.1;rw[dc_t hz]at HSZ;have HZ:Hid (Szu nf F):=hz;clear hz;go_enter Tryz.func42,Tryz.ntmps42;go_wp2_with fail;rw[<-(uh HW)];clear HW u0;refine(uh HSZ).mono ?_;rintro e w3 ⟨rfl,k3⟩;have u3:=(uh HBOX) w3 k3;have HK3:Hid (Kb 0 w2 w3):=k3;clear k3 HSZ;go_wp2_with fail;obtain⟨w5,hw5⟩:∃w5,w5=(w3.alloc (.cells #[.slice pa nf ca,.slice none 0 0,.map none] 126)).alloc (.cells #[.int .i64 2,.func (Fn.func 71) #[.pointer (some ⟨w3.heap.size,0,none⟩)] #[],.int .i64 3,.func (Fn.func 72) #[.pointer (some ⟨w3.heap.size,0,none⟩)] #[],.int .i64 4,.func (Fn.func 73) #[.pointer (some ⟨w3.heap.size,0,none⟩)] #[],.int .i64 5,.func (Fn.func 74) #[.pointer (some ⟨w3.heap.size,0,none⟩)] #[],.int .i64 6,.func (Fn.func 75) #[.pointer (some ⟨w3.heap.size,0,none⟩)] #[],.int .i64 7,.func (Fn.func 76) #[.pointer (some ⟨w3.heap.size,0,none⟩)] #[]] 128):=⟨_,rfl⟩
  rw[<-hw5];obtain⟨hfn0,hb,sz2,k2⟩:=(uh HFN)
  obtain⟨A,rfl,hca,-,hfn⟩:=hfn0 hn0;have k3:=(uh HK3)
  obtain⟨B,hB⟩:∃B,B=w3.heap.size:=⟨_,rfl⟩
  rw[<-hB];have z5:w5.heap.size=B+2:=by rw[hw5,hB];simp
  have k5:Kb 0 w3 w5:=by rw[hw5];exact kb_alloc2 _ _ _ _
  have qC:w5.heap[B]? =some (.cells #[.slice (some A) nf ca,.slice none 0 0,.map none] 126 (0,0)):=by
    rw[hw5,hB,(kb_alloc 0 _ _).block _ zq (by rw[World.size_alloc];omega)];exact alloc_new _ _ _
  have qR:w5.heap[B+1]? =some (.cells #[.int .i64 2,.func (Fn.func 71) #[.pointer (some ⟨B,0,none⟩)] #[],.int .i64 3,.func (Fn.func 72) #[.pointer (some ⟨B,0,none⟩)] #[],.int .i64 4,.func (Fn.func 73) #[.pointer (some ⟨B,0,none⟩)] #[],.int .i64 5,.func (Fn.func 74) #[.pointer (some ⟨B,0,none⟩)] #[],.int .i64 6,.func (Fn.func 75) #[.pointer (some ⟨B,0,none⟩)] #[],.int .i64 7,.func (Fn.func 76) #[.pointer (some ⟨B,0,none⟩)] #[]] 128 (0,0)):=by
    have e:(w3.alloc (.cells #[.slice (some A) nf ca,.slice none 0 0,.map none] 126)).heap.size=B+1:=by rw[hB];exact World.size_alloc _ _
    rw[hw5,<-e,hB];exact alloc_new _ _ _
  have k25:Kb 0 w2 w5:=k3.trans k5;have z25:=k3.size
  have HLOW:Hid (∀W v m,Ks B 1 (.slice none 0 0) (.map none) v m w5 W->W.cell? ⟨w.heap.size,0,none⟩=some (.slice (some A) nf ca)/\(W.cell? ⟨w.heap.size+1,0,none⟩=some (.int .i64 0)/\W.cell? ⟨w.heap.size+1,1,none⟩=some (.int .i64 0)/\W.cell? ⟨w.heap.size+1,2,none⟩=some (.int .i64 0)/\(∀j,W.frozen? ⟨w.heap.size+1,j,none⟩=false))/\Kb 0 w W/\w.heap.size+1<W.heap.size/\B+1<W.heap.size/\(∀i,i<6->W.cell? ⟨B+1,i*2,none⟩=some (.int .i64 ((i+2:Nat):Int))/\W.cell? ⟨B+1,i*2+1,none⟩=some (.func (Fn.func (mfn (i+2))) #[.pointer (some ⟨B,0,none⟩)] #[]))):=(λW v m ks=>by
    have lo:∀k,k<w5.heap.size->k≠B->W.heap[k]? =w5.heap[k]?:=λk hk hne=>ks.block k hk hne (by simp[Value.ownBlock]) (by simp);have hsz:=ks.size;have kx:∀{W2:World},W2.heap.size<=B->Kb 0 W2 w5->Kb 0 W2 W:=λ{W2} hb2 kb=>⟨ks.os.trans kb.os,ks.output.trans kb.output,by have:=kb.size;omega,λk _ hk=>(lo k (by omega) (by omega)).trans (kb.block k zq hk)⟩
    obtain⟨r0,r1,r2,fr,kk,hlt⟩:=(uh HRES) W (kx (by omega) k25);have u0:=(uh HBOX) W (kx (by omega) k25);refine⟨u0,⟨r0,r1,r2,fr⟩,kk,hlt,by omega,λi hi=>?_⟩;have qW:=(lo (B+1) (by omega) (by omega)).trans qR
    rcases(show i=0\/i=1\/i=2\/i=3\/i=4\/i=5 by omega)with rfl|rfl|rfl|rfl|rfl|rfl<;>exact⟨cell_of qW rfl,cell_of qW rfl⟩:∀W v m,_)
  have H0:Hid (∃L v m,Cst w A nf ca B F (0+2) 0 L v m w5/\Ks B 1 (.slice none 0 0) (.map none) v m w5 w5/\(0+2<=6->L=[])/\∀c',2<=c'->c'<0+2->La (PQ F nf c') (LQ F c') nf):=(⟨[],.slice none 0 0,.map none,⟨k2.trans k25,cell_of qC rfl,by omega,⟨cell_of qC rfl,cell_of qC rfl,λj=>frozen_of qC,World.ownsRow_nil _ _ _ _,.inl ⟨rfl,rfl⟩,λe=>by cases e⟩,⟨λk e=>(by cases e),λk e=>(by cases e)⟩,λe=>by omega,λe=>by omega,λe=>by omega⟩,Ks.refl _ _ _ _ _,λ_=>rfl,λc' h1 h2=>by omega⟩:∃L v m,_)
  have HF:Hid (Gd w/\(∀i,i<nf->ProC 0 w (A.add (i*9)) (F i))/\Bd nf F/\Szu nf F):=(⟨hgd,hfn,hb,HZ⟩:_/\_)
  clear hw5 hfn0 hb sz2 k2 hca hfn k3 hB z5 k5 qC qR k25 z25 HRES HBOX HFN HK3 HZ u3;clear w3 w2
  go_loopw [29] (λs33 wr=>∃i:Nat,s33=.int .i64 i/\i<=6/\Hid (∃L v m,Cst w A nf ca B F (i+2) 0 L v m wr/\Ks B 1 (.slice none 0 0) (.map none) v m w5 wr/\(i+2<=6->L=[])/\∀c',2<=c'->c'<i+2->La (PQ F nf c') (LQ F c') nf)) (λs33 _=>6-(intOf s33).toNat)
  case atStart=>exact⟨0,rfl,by omega,H0⟩
  case round=>
    clear H0;obtain⟨i,rfl,hi8,HX⟩:=hrel;obtain⟨L,v,m,st,ks,hL,hla⟩:=(uh HX)
    obtain⟨u0,⟨r0,r1,r2,fr⟩,kk,hlt,hl2,hrow⟩:=(uh HLOW) wr v m ks;rcases Nat.lt_or_ge i 6 with h|h
    case inr=>
      have hI:¬(i:Int)<6:=by omega
      obtain⟨hgd,-,hb,hz⟩:=(uh HF)
      have HAN:Hid (Ans 7 nf F 0 0 0):=.inr (.inr ⟨hz,rfl,rfl,rfl,λc' h1 h2=>hla c' h1 (by omega)⟩);have HKW:Hid (Kb 0 w wr):=kk;clear HX st ks hL hla u0 kk hl2 hrow HLOW HF hb hz;go_wp2_with fail;refine bodyPost_ret (by simp[results,Tryz.results42,go_sem,r0,r1,r2];rfl) rfl ?_;exact⟨0,0,0,rfl,HAN,(((uh HKW).setCell ⟨w.heap.size+1,0,none⟩ (Or.inr (by show w.heap.size<=w.heap.size+1;omega)) _).setCell ⟨w.heap.size+1,1,none⟩ (Or.inr (by show w.heap.size<=w.heap.size+1;omega)) _).setCell ⟨w.heap.size+1,2,none⟩ (Or.inr (by show w.heap.size<=w.heap.size+1;omega)) _⟩
    have hI:(i:Int)<6:=by omega
    obtain⟨q0,q1⟩:=hrow i h;obtain⟨c,hc⟩:∃c,c=i+2:=⟨_,rfl⟩
    rw[<-hc]at q0 q1;obtain⟨wo,rfl⟩:∃wo,wo=wr:=⟨_,rfl⟩
    have u0a:∀o,(wo.alloc o).cell? ⟨w.heap.size,0,none⟩=some (.slice (some A) nf ca):=λo=>(kb_alloc 0 wo o).cell u0;have hst:∀(a:Addr) (n:Nat) (md:Mode) (w:World),(store a (.func (Fn.func n) #[.pointer (some ⟨B,0,none⟩)] #[]) md).run Tryz.prog w=stored Tryz.prog w a (.func (Fn.func n) #[.pointer (some ⟨B,0,none⟩)] #[]) md:=λa n md w=>run_store _ _ _ _ _ rfl;obtain⟨w6,hw6⟩:∃w6,w6=wo.alloc (.cells #[.int .i64 c,.func (Fn.func (mfn c)) #[.pointer (some ⟨B,0,none⟩)] #[]] 128):=⟨_,rfl⟩
    have k6:Kb 0 wo w6:=by rw[hw6];exact kb_alloc _ _ _
    have qq:w6.heap[wo.heap.size]? =some (.cells #[.int .i64 c,.func (Fn.func (mfn c)) #[.pointer (some ⟨B,0,none⟩)] #[]] 128 (0,0)):=by rw[hw6];exact alloc_new _ _ _
    have z6:w6.heap.size=wo.heap.size+1:=by rw[hw6,World.size_alloc]
    have hBl:=st.lt;have ks6:Ks B 1 (.slice none 0 0) (.map none) v m w5 w6:=ks.trans (Ks.of_kb k6 hBl);have hvl:∀k,v.ownBlock=some k->k<wo.heap.size:=λk e=>(st.zt.row.lt k e).2
    have hml:∀k,m=.map (some k)->k<wo.heap.size:=λk e=>by
      rcases st.zt.mp with⟨_,q⟩|⟨M,e1,hM⟩
      · rw[q]at e;cases e
      · obtain⟨es,clock,hb',_⟩:=hM;rw[e1]at e;have:M=k:=by simpa using e
        subst this;exact lt_of_obj hb'
    have HQ:Hid (∀W v' m',Ks B 1 v m v' m' w6 W->(W.cell? ⟨wo.heap.size,0,none⟩=some (.int .i64 c)/\W.cell? ⟨wo.heap.size,1,none⟩=some (.func (Fn.func (mfn c)) #[.pointer (some ⟨B,0,none⟩)] #[]))/\Ks B 1 (.slice none 0 0) (.map none) v' m' w5 W):=(λW v' m' k=>by
      have q:=(k.block wo.heap.size (by omega) (by omega) (λe=>by have:=hvl _ e;omega) (λe=>by have:=hml _ e;omega)).trans qq
      exact⟨⟨cell_of q rfl,cell_of q rfl⟩,ks6.trans k⟩:∀W v' m',_)
    have H1:Hid (∃L' v' m',Cst w A nf ca B F c 0 L' v' m' w6/\Ks B 1 v m v' m' w6 w6/\(c<=5->L'=[])/\∀g,g<0->∀t,t<LQ F c g->PQ F nf c g t):=(⟨L,v,m,by rw[hc];exact st.alloc k6,Ks.refl _ _ _ _ _,λe=>hL (by omega),λg hg=>by omega⟩:∃L' v' m',_)
    have HLA:Hid (∀c',2<=c'->c'<c->La (PQ F nf c') (LQ F c') nf):=(λc' h1 h2=>hla c' h1 (by omega):∀c',_)
    have HCI:Hid (c=i+2/\i<6):=(⟨hc,h⟩:_/\_)
    have HW6:Hid (w6=wo.alloc (.cells #[.int .i64 c,.func (Fn.func (mfn c)) #[.pointer (some ⟨B,0,none⟩)] #[]] 128)):=hw6;clear HX st ks hL hla r0 r1 r2 fr kk hlt hl2 hrow hc h hw6 k6 qq z6 hBl ks6 hvl hml hi8;go_wp2_with fail;rw[<-(uh HW6)];clear HW6 u0a u0 q0 q1;generalize wo.heap.size=X at*
    go_loopw [36] (λs40 wr=>∃f:Nat,s40=.int .i64 f/\f<=nf/\Hid (∃L' v' m',Cst w A nf ca B F c f L' v' m' wr/\Ks B 1 v m v' m' w6 wr/\(c<=5->L'=[])/\∀g,g<f->∀t,t<LQ F c g->PQ F nf c g t)) (λs40 _=>nf-(intOf s40).toNat)
    case atStart=>exact⟨0,rfl,Nat.zero_le _,H1⟩
    case round=>
      clear H1;obtain⟨f,rfl,hf,HX⟩:=hrel;obtain⟨L1,v1,m1,st,ks,hL,hall⟩:=(uh HX)
      obtain⟨⟨q0,q1⟩,ks5⟩:=(uh HQ) wr v1 m1 ks;obtain⟨hgd,hfn,hb,hz⟩:=(uh HF)
      obtain⟨hc,h8⟩:=(uh HCI)
      have hla:=(uh HLA)
      rcases Nat.lt_or_ge f nf with h|h
      case inr=>
        have hfI:¬(f:Int)<(nf:Int):=by omega
        have ef:f=nf:=by omega
        have HN : Hid (∃ L v m, Cst w A nf ca B F (i + 1 + 2) 0 L v m wr ∧ Ks B 1 (.slice none 0 0) (.map none) v m w5 wr ∧ (i + 1 + 2 ≤ 6 → L = []) ∧ ∀ c', 2 ≤ c' → c' < i + 1 + 2 → La (PQ F nf c') (LQ F c') nf) := (⟨L1, v1, m1, ⟨st.kb, st.cb, st.hB, st.zt, st.ob, fun e x => by
            rw[hL (by omega)];constructor
            · intro q;cases q
            · intro q;exact absurd q (mb_zero F x),λe x=>by
            have:=st.mak (by omega) x
            rw[ef]at this;exact this,λe=>by rw[hL (by omega)];exact Nat.zero_le _⟩,ks5,λe=>hL (by omega),λc' h1 h2=>by
            by_cases e:c'=c
            · subst e;exact λg hg t ht=>hall g (by omega) t ht
            · exact hla c' h1 (by omega)⟩:∃L v m,_)
        have hi2:i+1<=6:=by omega
        clear HX st ks hL hall q0 q1 ks5 hfn hb hz hla HLA HF HLOW HQ h ef hc HCI h8;go_wp2_with fail;go_roundw
        case rel=>exact⟨i+1,by go_num,by omega,HN⟩
        case measure=>simp[intOf];omega
      have hfI:(f:Int)<(nf:Int):=by omega
      have HM:=im_meth (w:=w) (W:=wr) (A:=A) (nf:=nf) (ca:=ca) (B:=B) (c:=c) (f:=f) (F:=F) (L:=L1) (v:=v1) (m:=m1) hgd hfn hb hz (by omega) (by omega) h hla st;have HM2:Hid (Calls Tryz.prog (mfn c) #[.pointer (some ⟨B,0,none⟩),.int .i64 f] wr _):=HM;have HB2:Hid (Ks B 1 v m v1 m1 w6 wr/\Ks B 1 (.slice none 0 0) (.map none) v1 m1 w5 wr/\(c<=5->L1=[])/\(∀g,g<f->∀t,t<LQ F c g->PQ F nf c g t)/\f<nf/\c=i+2/\i<6/\Szu nf F):=(⟨ks,ks5,hL,hall,h,hc,h8,hz⟩:_/\_)
      have hcase:mfn c=71\/mfn c=72\/mfn c=73\/mfn c=74\/mfn c=75\/mfn c=76:=by
        rcases(show c=2\/c=3\/c=4\/c=5\/c=6\/c=7 by omega)with e|e|e|e|e|e
        · subst e;exact .inl rfl
        · subst e;exact .inr (.inl rfl)
        · subst e;exact .inr (.inr (.inl rfl))
        · subst e;exact .inr (.inr (.inr (.inl rfl)))
        · subst e;exact .inr (.inr (.inr (.inr (.inl rfl))))
        · subst e;exact .inr (.inr (.inr (.inr (.inr rfl))))
      clear HM HX st ks hL hall ks5 hfn hb hz hc h8 hla h HCI;rcases hcase with em|em|em|em|em|em
      · rw[em]at q1 HM2;clear em;go_wp2_with fail;refine(uh HM2).mono ?_;rintro e w9 ⟨r,rfl,hr,v2,m2,hk,hN⟩;obtain⟨ks,ks5,hL,hall,h,hc,h8,hz⟩:=(uh HB2)
        have k69:=ks.trans hk;clear q0 q1;obtain⟨⟨q0,q1⟩,ks9⟩:=(uh HQ) w9 v2 m2 k69;obtain⟨u0,⟨r0,r1,r2,fr⟩,kk,hlt,hl2,hrow⟩:=(uh HLOW) w9 v2 m2 ks9;rcases hr with⟨rfl,hr⟩|⟨n,rfl,hn1,hn2,hn3⟩
        · obtain⟨L2,st2,hL2⟩:=hN rfl
          have H2:Hid (∃L' v' m',Cst w A nf ca B F c (f+1) L' v' m' w9/\Ks B 1 v m v' m' w6 w9/\(c<=5->L'=[])/\∀g,g<f+1->∀t,t<LQ F c g->PQ F nf c g t):=(⟨L2,v2,m2,st2,k69,λe=>by rw[hL2 (by omega)];exact hL e,λg hg t ht=>by
            by_cases e:g=f
            · subst e;exact hr t ht
            · exact hall g (by omega) t ht⟩:∃L' v' m',_)
          have hf2:f+1<=nf:=h;clear HM2 HB2 hk hN ks ks5 hL hall h hc h8 hz k69 q0 q1 ks9 u0 r0 r1 r2 fr kk hlt hl2 hrow hr st2 hL2 HLOW HQ HLA HF;go_wp2_with fail;go_roundw
          case rel=>exact⟨f+1,by go_num,by omega,H2⟩
          case measure=>simp[intOf];omega
        · have HAN:Hid (Ans 7 nf F c f n):=.inr (.inl ⟨hz,by omega,by omega,⟨h,hn1,hn2,hn3,hall⟩,HLA⟩);have HKW:Hid (Kb 0 w w9):=kk;clear HM2 HB2 hk hN ks ks5 hL hall h hc h8 hz k69 q1 ks9 u0 kk hl2 hrow hn1 hn2 hn3 HLOW HQ HLA HF;go_wp2_with fail;refine bodyPost_ret (by simp[results,Tryz.results42,go_sem,r0,r1,r2];rfl) rfl ?_;exact⟨c,f,n,rfl,HAN,(((uh HKW).setCell ⟨w.heap.size+1,0,none⟩ (Or.inr (by show w.heap.size<=w.heap.size+1;omega)) _).setCell ⟨w.heap.size+1,1,none⟩ (Or.inr (by show w.heap.size<=w.heap.size+1;omega)) _).setCell ⟨w.heap.size+1,2,none⟩ (Or.inr (by show w.heap.size<=w.heap.size+1;omega)) _⟩
      · rw[em]at q1 HM2;clear em;go_wp2_with fail;refine(uh HM2).mono ?_;rintro e w9 ⟨r,rfl,hr,v2,m2,hk,hN⟩;obtain⟨ks,ks5,hL,hall,h,hc,h8,hz⟩:=(uh HB2)
        have k69:=ks.trans hk;clear q0 q1;obtain⟨⟨q0,q1⟩,ks9⟩:=(uh HQ) w9 v2 m2 k69;obtain⟨u0,⟨r0,r1,r2,fr⟩,kk,hlt,hl2,hrow⟩:=(uh HLOW) w9 v2 m2 ks9;rcases hr with⟨rfl,hr⟩|⟨n,rfl,hn1,hn2,hn3⟩
        · obtain⟨L2,st2,hL2⟩:=hN rfl
          have H2:Hid (∃L' v' m',Cst w A nf ca B F c (f+1) L' v' m' w9/\Ks B 1 v m v' m' w6 w9/\(c<=5->L'=[])/\∀g,g<f+1->∀t,t<LQ F c g->PQ F nf c g t):=(⟨L2,v2,m2,st2,k69,λe=>by rw[hL2 (by omega)];exact hL e,λg hg t ht=>by
            by_cases e:g=f
            · subst e;exact hr t ht
            · exact hall g (by omega) t ht⟩:∃L' v' m',_)
          have hf2:f+1<=nf:=h;clear HM2 HB2 hk hN ks ks5 hL hall h hc h8 hz k69 q0 q1 ks9 u0 r0 r1 r2 fr kk hlt hl2 hrow hr st2 hL2 HLOW HQ HLA HF;go_wp2_with fail;go_roundw
          case rel=>exact⟨f+1,by go_num,by omega,H2⟩
          case measure=>simp[intOf];omega
        · have HAN:Hid (Ans 7 nf F c f n):=.inr (.inl ⟨hz,by omega,by omega,⟨h,hn1,hn2,hn3,hall⟩,HLA⟩);have HKW:Hid (Kb 0 w w9):=kk;clear HM2 HB2 hk hN ks ks5 hL hall h hc h8 hz k69 q1 ks9 u0 kk hl2 hrow hn1 hn2 hn3 HLOW HQ HLA HF;go_wp2_with fail;refine bodyPost_ret (by simp[results,Tryz.results42,go_sem,r0,r1,r2];rfl) rfl ?_;exact⟨c,f,n,rfl,HAN,(((uh HKW).setCell ⟨w.heap.size+1,0,none⟩ (Or.inr (by show w.heap.size<=w.heap.size+1;omega)) _).setCell ⟨w.heap.size+1,1,none⟩ (Or.inr (by show w.heap.size<=w.heap.size+1;omega)) _).setCell ⟨w.heap.size+1,2,none⟩ (Or.inr (by show w.heap.size<=w.heap.size+1;omega)) _⟩
      · rw[em]at q1 HM2;clear em;go_wp2_with fail;refine(uh HM2).mono ?_;rintro e w9 ⟨r,rfl,hr,v2,m2,hk,hN⟩;obtain⟨ks,ks5,hL,hall,h,hc,h8,hz⟩:=(uh HB2)
        have k69:=ks.trans hk;clear q0 q1;obtain⟨⟨q0,q1⟩,ks9⟩:=(uh HQ) w9 v2 m2 k69;obtain⟨u0,⟨r0,r1,r2,fr⟩,kk,hlt,hl2,hrow⟩:=(uh HLOW) w9 v2 m2 ks9;rcases hr with⟨rfl,hr⟩|⟨n,rfl,hn1,hn2,hn3⟩
        · obtain⟨L2,st2,hL2⟩:=hN rfl
          have H2:Hid (∃L' v' m',Cst w A nf ca B F c (f+1) L' v' m' w9/\Ks B 1 v m v' m' w6 w9/\(c<=5->L'=[])/\∀g,g<f+1->∀t,t<LQ F c g->PQ F nf c g t):=(⟨L2,v2,m2,st2,k69,λe=>by rw[hL2 (by omega)];exact hL e,λg hg t ht=>by
            by_cases e:g=f
            · subst e;exact hr t ht
            · exact hall g (by omega) t ht⟩:∃L' v' m',_)
          have hf2:f+1<=nf:=h;clear HM2 HB2 hk hN ks ks5 hL hall h hc h8 hz k69 q0 q1 ks9 u0 r0 r1 r2 fr kk hlt hl2 hrow hr st2 hL2 HLOW HQ HLA HF;go_wp2_with fail;go_roundw
          case rel=>exact⟨f+1,by go_num,by omega,H2⟩
          case measure=>simp[intOf];omega
        · have HAN:Hid (Ans 7 nf F c f n):=.inr (.inl ⟨hz,by omega,by omega,⟨h,hn1,hn2,hn3,hall⟩,HLA⟩);have HKW:Hid (Kb 0 w w9):=kk;clear HM2 HB2 hk hN ks ks5 hL hall h hc h8 hz k69 q1 ks9 u0 kk hl2 hrow hn1 hn2 hn3 HLOW HQ HLA HF;go_wp2_with fail;refine bodyPost_ret (by simp[results,Tryz.results42,go_sem,r0,r1,r2];rfl) rfl ?_;exact⟨c,f,n,rfl,HAN,(((uh HKW).setCell ⟨w.heap.size+1,0,none⟩ (Or.inr (by show w.heap.size<=w.heap.size+1;omega)) _).setCell ⟨w.heap.size+1,1,none⟩ (Or.inr (by show w.heap.size<=w.heap.size+1;omega)) _).setCell ⟨w.heap.size+1,2,none⟩ (Or.inr (by show w.heap.size<=w.heap.size+1;omega)) _⟩
      · rw[em]at q1 HM2;clear em;go_wp2_with fail;refine(uh HM2).mono ?_;rintro e w9 ⟨r,rfl,hr,v2,m2,hk,hN⟩;obtain⟨ks,ks5,hL,hall,h,hc,h8,hz⟩:=(uh HB2)
        have k69:=ks.trans hk;clear q0 q1;obtain⟨⟨q0,q1⟩,ks9⟩:=(uh HQ) w9 v2 m2 k69;obtain⟨u0,⟨r0,r1,r2,fr⟩,kk,hlt,hl2,hrow⟩:=(uh HLOW) w9 v2 m2 ks9;rcases hr with⟨rfl,hr⟩|⟨n,rfl,hn1,hn2,hn3⟩
        · obtain⟨L2,st2,hL2⟩:=hN rfl
          have H2:Hid (∃L' v' m',Cst w A nf ca B F c (f+1) L' v' m' w9/\Ks B 1 v m v' m' w6 w9/\(c<=5->L'=[])/\∀g,g<f+1->∀t,t<LQ F c g->PQ F nf c g t):=(⟨L2,v2,m2,st2,k69,λe=>by rw[hL2 (by omega)];exact hL e,λg hg t ht=>by
            by_cases e:g=f
            · subst e;exact hr t ht
            · exact hall g (by omega) t ht⟩:∃L' v' m',_)
          have hf2:f+1<=nf:=h;clear HM2 HB2 hk hN ks ks5 hL hall h hc h8 hz k69 q0 q1 ks9 u0 r0 r1 r2 fr kk hlt hl2 hrow hr st2 hL2 HLOW HQ HLA HF;go_wp2_with fail;go_roundw
          case rel=>exact⟨f+1,by go_num,by omega,H2⟩
          case measure=>simp[intOf];omega
        · have HAN:Hid (Ans 7 nf F c f n):=.inr (.inl ⟨hz,by omega,by omega,⟨h,hn1,hn2,hn3,hall⟩,HLA⟩);have HKW:Hid (Kb 0 w w9):=kk;clear HM2 HB2 hk hN ks ks5 hL hall h hc h8 hz k69 q1 ks9 u0 kk hl2 hrow hn1 hn2 hn3 HLOW HQ HLA HF;go_wp2_with fail;refine bodyPost_ret (by simp[results,Tryz.results42,go_sem,r0,r1,r2];rfl) rfl ?_;exact⟨c,f,n,rfl,HAN,(((uh HKW).setCell ⟨w.heap.size+1,0,none⟩ (Or.inr (by show w.heap.size<=w.heap.size+1;omega)) _).setCell ⟨w.heap.size+1,1,none⟩ (Or.inr (by show w.heap.size<=w.heap.size+1;omega)) _).setCell ⟨w.heap.size+1,2,none⟩ (Or.inr (by show w.heap.size<=w.heap.size+1;omega)) _⟩
      · rw[em]at q1 HM2;clear em;go_wp2_with fail;refine(uh HM2).mono ?_;rintro e w9 ⟨r,rfl,hr,v2,m2,hk,hN⟩;obtain⟨ks,ks5,hL,hall,h,hc,h8,hz⟩:=(uh HB2)
        have k69:=ks.trans hk;clear q0 q1;obtain⟨⟨q0,q1⟩,ks9⟩:=(uh HQ) w9 v2 m2 k69;obtain⟨u0,⟨r0,r1,r2,fr⟩,kk,hlt,hl2,hrow⟩:=(uh HLOW) w9 v2 m2 ks9;rcases hr with⟨rfl,hr⟩|⟨n,rfl,hn1,hn2,hn3⟩
        · obtain⟨L2,st2,hL2⟩:=hN rfl
          have H2:Hid (∃L' v' m',Cst w A nf ca B F c (f+1) L' v' m' w9/\Ks B 1 v m v' m' w6 w9/\(c<=5->L'=[])/\∀g,g<f+1->∀t,t<LQ F c g->PQ F nf c g t):=(⟨L2,v2,m2,st2,k69,λe=>by rw[hL2 (by omega)];exact hL e,λg hg t ht=>by
            by_cases e:g=f
            · subst e;exact hr t ht
            · exact hall g (by omega) t ht⟩:∃L' v' m',_)
          have hf2:f+1<=nf:=h;clear HM2 HB2 hk hN ks ks5 hL hall h hc h8 hz k69 q0 q1 ks9 u0 r0 r1 r2 fr kk hlt hl2 hrow hr st2 hL2 HLOW HQ HLA HF;go_wp2_with fail;go_roundw
          case rel=>exact⟨f+1,by go_num,by omega,H2⟩
          case measure=>simp[intOf];omega
        · have HAN:Hid (Ans 7 nf F c f n):=.inr (.inl ⟨hz,by omega,by omega,⟨h,hn1,hn2,hn3,hall⟩,HLA⟩);have HKW:Hid (Kb 0 w w9):=kk;clear HM2 HB2 hk hN ks ks5 hL hall h hc h8 hz k69 q1 ks9 u0 kk hl2 hrow hn1 hn2 hn3 HLOW HQ HLA HF;go_wp2_with fail;refine bodyPost_ret (by simp[results,Tryz.results42,go_sem,r0,r1,r2];rfl) rfl ?_;exact⟨c,f,n,rfl,HAN,(((uh HKW).setCell ⟨w.heap.size+1,0,none⟩ (Or.inr (by show w.heap.size<=w.heap.size+1;omega)) _).setCell ⟨w.heap.size+1,1,none⟩ (Or.inr (by show w.heap.size<=w.heap.size+1;omega)) _).setCell ⟨w.heap.size+1,2,none⟩ (Or.inr (by show w.heap.size<=w.heap.size+1;omega)) _⟩
      · rw[em]at q1 HM2;clear em;go_wp2_with fail;refine(uh HM2).mono ?_;rintro e w9 ⟨r,rfl,hr,v2,m2,hk,hN⟩;obtain⟨ks,ks5,hL,hall,h,hc,h8,hz⟩:=(uh HB2)
        have k69:=ks.trans hk;clear q0 q1;obtain⟨⟨q0,q1⟩,ks9⟩:=(uh HQ) w9 v2 m2 k69;obtain⟨u0,⟨r0,r1,r2,fr⟩,kk,hlt,hl2,hrow⟩:=(uh HLOW) w9 v2 m2 ks9;rcases hr with⟨rfl,hr⟩|⟨n,rfl,hn1,hn2,hn3⟩
        · obtain⟨L2,st2,hL2⟩:=hN rfl
          have H2:Hid (∃L' v' m',Cst w A nf ca B F c (f+1) L' v' m' w9/\Ks B 1 v m v' m' w6 w9/\(c<=5->L'=[])/\∀g,g<f+1->∀t,t<LQ F c g->PQ F nf c g t):=(⟨L2,v2,m2,st2,k69,λe=>by rw[hL2 (by omega)];exact hL e,λg hg t ht=>by
            by_cases e:g=f
            · subst e;exact hr t ht
            · exact hall g (by omega) t ht⟩:∃L' v' m',_)
          have hf2:f+1<=nf:=h;clear HM2 HB2 hk hN ks ks5 hL hall h hc h8 hz k69 q0 q1 ks9 u0 r0 r1 r2 fr kk hlt hl2 hrow hr st2 hL2 HLOW HQ HLA HF;go_wp2_with fail;go_roundw
          case rel=>exact⟨f+1,by go_num,by omega,H2⟩
          case measure=>simp[intOf];omega
        · have HAN:Hid (Ans 7 nf F c f n):=.inr (.inl ⟨hz,by omega,by omega,⟨h,hn1,hn2,hn3,hall⟩,HLA⟩);have HKW:Hid (Kb 0 w w9):=kk;clear HM2 HB2 hk hN ks ks5 hL hall h hc h8 hz k69 q1 ks9 u0 kk hl2 hrow hn1 hn2 hn3 HLOW HQ HLA HF;go_wp2_with fail;refine bodyPost_ret (by simp[results,Tryz.results42,go_sem,r0,r1,r2];rfl) rfl ?_;exact⟨c,f,n,rfl,HAN,(((uh HKW).setCell ⟨w.heap.size+1,0,none⟩ (Or.inr (by show w.heap.size<=w.heap.size+1;omega)) _).setCell ⟨w.heap.size+1,1,none⟩ (Or.inr (by show w.heap.size<=w.heap.size+1;omega)) _).setCell ⟨w.heap.size+1,2,none⟩ (Or.inr (by show w.heap.size<=w.heap.size+1;omega)) _⟩
