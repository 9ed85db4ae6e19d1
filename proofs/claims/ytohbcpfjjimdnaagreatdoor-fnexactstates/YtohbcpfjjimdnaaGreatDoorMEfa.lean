import Derived.Test.YtohbcpfjjimdnaaGreatDoorMCgd
set_option maxHeartbeats 8000000
namespace Go.Proofs.YtohbcpfjjimdnaaGreatDoor.Fo
open Go.ChangeShapes Go.WideShapes Go.ChangeAt Go.RowKit
set_option linter.unusedVariables false
set_option maxRecDepth 100000
variable {b n cap c:Nat}{W W':World}{pa:Option Addr}{v va:Value}{X U:Nat->Bool × Int}{F:Nat->Pd}{N:Nat->Iv}{D:Nat->Mv}{C:Nat->Vv}
def FzO(b:Nat)(W:World)(pa:Option Addr)(n cap:Nat):Prop:=∃g,pa=some ⟨g,0,none⟩/\cap=n/\b<=g/\g<W.heap.size/\∀j,W.frozen? ⟨g,j,none⟩=false
theorem FzO.keep(h:FzO b W pa n cap)(k:Kb b W W'):FzO b W' pa n cap:=by
 obtain⟨g,h1,h2,h3,h4,h5⟩:=h;exact⟨g,h1,h2,h3,Nat.lt_of_lt_of_le h4 k.size,λj=>(k.frozen h3 h4).trans (h5 j)⟩
theorem FzO.mono(h:FzO b W pa n cap)(hc:c<=b):FzO c W pa n cap:=by
 obtain⟨g,h1,h2,h3,h4,h5⟩:=h;exact⟨g,h1,h2,Nat.le_trans hc h3,h4,h5⟩
def RowUF(b:Nat)(W:World)(v:Value)(n:Nat)(X:Nat->Bool×Int):Prop:=∃pa cap,v=.slice pa n cap/\RowU b W (.slice pa n cap) n X/\FzO b W pa n cap
theorem RowUF.keep(h:RowUF b W v n X)(k:Kb b W W'):RowUF b W' v n X:=by
 obtain⟨pa,cap,h1,h2,h3⟩:=h;exact⟨pa,cap,h1,h2.keep k,h3.keep k⟩
theorem RowUF.mono(h:RowUF b W v n X)(hc:c<=b):RowUF c W v n X:=by
 obtain⟨pa,cap,h1,h2,h3⟩:=h;exact⟨pa,cap,h1,h2.mono hc,h3.mono hc⟩
theorem RowUF.row(h:RowUF b W v n X):RowU b W v n X:=by
 obtain⟨pa,cap,h1,h2,h3⟩:=h;rw[h1];exact h2
def RowWF(b:Nat)(W:World)(v:Value)(n:Nat)(X:Nat->Vv):Prop:=∃pa cap,v=.slice pa n cap/\RowW b W (.slice pa n cap) n X/\FzO b W pa n cap
theorem RowWF.keep{X:Nat->Vv}(h:RowWF b W v n X)(k:Kb b W W'):RowWF b W' v n X:=by
 obtain⟨pa,cap,h1,h2,h3⟩:=h;exact⟨pa,cap,h1,h2.keep k,h3.keep k⟩
theorem RowWF.mono{X:Nat->Vv}(h:RowWF b W v n X)(hc:c<=b):RowWF c W v n X:=by
 obtain⟨pa,cap,h1,h2,h3⟩:=h;exact⟨pa,cap,h1,h2.mono hc,h3.mono hc⟩
theorem RowWF.row{X:Nat->Vv}(h:RowWF b W v n X):RowW b W v n X:=by
 obtain⟨pa,cap,h1,h2,h3⟩:=h;rw[h1];exact h2
def RowIF(b:Nat)(W:World)(v:Value)(n:Nat)(X:Nat->Iv):Prop:=∃pa cap,v=.slice pa n cap/\RowI b W (.slice pa n cap) n X/\FzO b W pa n cap
theorem RowIF.keep{X:Nat->Iv}(h:RowIF b W v n X)(k:Kb b W W'):RowIF b W' v n X:=by
 obtain⟨pa,cap,h1,h2,h3⟩:=h;exact⟨pa,cap,h1,h2.keep k,h3.keep k⟩
theorem RowIF.mono{X:Nat->Iv}(h:RowIF b W v n X)(hc:c<=b):RowIF c W v n X:=by
 obtain⟨pa,cap,h1,h2,h3⟩:=h;exact⟨pa,cap,h1,h2.mono hc,h3.mono hc⟩
theorem RowIF.row{X:Nat->Iv}(h:RowIF b W v n X):RowI b W v n X:=by
 obtain⟨pa,cap,h1,h2,h3⟩:=h;rw[h1];exact h2
def RowMF(b:Nat)(W:World)(v:Value)(n:Nat)(X:Nat->Mv):Prop:=∃pa cap,v=.slice pa n cap/\RowM b W (.slice pa n cap) n X/\FzO b W pa n cap
theorem RowMF.keep{X:Nat->Mv}(h:RowMF b W v n X)(k:Kb b W W'):RowMF b W' v n X:=by
 obtain⟨pa,cap,h1,h2,h3⟩:=h;exact⟨pa,cap,h1,h2.keep k,h3.keep k⟩
theorem RowMF.mono{X:Nat->Mv}(h:RowMF b W v n X)(hc:c<=b):RowMF c W v n X:=by
 obtain⟨pa,cap,h1,h2,h3⟩:=h;exact⟨pa,cap,h1,h2.mono hc,h3.mono hc⟩
theorem RowMF.row{X:Nat->Mv}(h:RowMF b W v n X):RowM b W v n X:=by
 obtain⟨pa,cap,h1,h2,h3⟩:=h;rw[h1];exact h2
def RowPF(b:Nat)(W:World)(v:Value)(n:Nat)(F:Nat->Pd):Prop:=∃g,v=.slice (some ⟨g,0,none⟩) n n/\b<=g/\g<W.heap.size/\(∀j,W.frozen? ⟨g,j,none⟩=false)/\∀i,i<n->∃vu vc vn vd,CelP W ⟨g,i*9,none⟩ (F i) vu vc vn vd/\RowUF (g+1) W vu (F i).u (F i).U/\RowWF (g+1) W vc (F i).c (F i).C/\RowIF (g+1) W vn (F i).n (F i).N/\RowMF (g+1) W vd (F i).d (F i).D
theorem RowPF.keep(h:RowPF b W v n F)(k:Kb b W W'):RowPF b W' v n F:=by
 obtain⟨g,h1,h2,h3,h4,h5⟩:=h;refine⟨g,h1,h2,Nat.lt_of_lt_of_le h3 k.size,λj=>(k.frozen h2 h3).trans (h4 j),λi hi=>?_⟩;obtain⟨vu,vc,vn,vd,c,r1,r2,r3,r4⟩:=h5 i hi;exact⟨vu,vc,vn,vd,c.keep h2 k,r1.keep (k.mono (by omega)),r2.keep (k.mono (by omega)),r3.keep (k.mono (by omega)),r4.keep (k.mono (by omega))⟩
theorem RowPF.row(h:RowPF b W v n F):RowP b W v n F:=by
 obtain⟨g,h1,h2,h3,h4,h5⟩:=h;refine⟨_,_,h1,λ_=>⟨_,rfl,Nat.le_refl _,h2,λi hi=>?_⟩⟩;obtain⟨vu,vc,vn,vd,c,r1,r2,r3,r4⟩:=h5 i hi;rw[addr0];exact⟨vu,vc,vn,vd,c,r1.row.mono (by omega),r2.row.mono (by omega),r3.row.mono (by omega),r4.row.mono (by omega)⟩
theorem to_upsF(w:World)(ha:RowU 0 w va n U)(hn:n<=1048576):
  Calls Tryz.prog 66 #[va] w λe w'=>∃v,e=.returned v/\RowUF w.heap.size w' v n U/\Kb 0 w w':=by
 obtain⟨pa,ca,rfl,ha2⟩:=ha;have hnI:(n:Int)<=1048576:=by omega
 have hmk:=run_make (P:=Tryz.prog) w 47 115 Tryz.t115 (.agg #[.bool false,.int .i64 0]) Tryz.underlying47 (by kernel_rfl) (by kernel_rfl) .i64 .i64 (n:Int) (n:Int) (by omega) (Int.le_refl _) (by show(16:Int)*(n:Int)<=_;omega) (by omega);rw[Int.toNat_natCast]at hmk;obtain⟨w1,hw1⟩:∃w1,w1=w.alloc (.cells (madeCells (.agg #[.bool false,.int .i64 0]:Value).cells (n*2)) 115):=⟨_,rfl⟩
 have hmk2:=hmk;rw[show n*Tryz.t115.size=n*2 from rfl,<-hw1]at hmk2;clear hmk;have hk1:Kb 0 w w1:=by rw[hw1];exact kb_alloc _ _ _
 obtain⟨G,hG⟩:∃G,G=w.heap.size:=⟨_,rfl⟩
 have HI0:Hid (∃E:Nat->List Value,Mk 2 w1 G n E 0 w1/\∀j,j<0->E j=[.bool (U j).1,.int .i64 (U j).2]):=by
  refine⟨λ_=>[],?_,λj hj=>by omega⟩;rw[hG,hw1];exact mk_zero w _ 2 _ n _ rfl
 have HA:Hid ((0<n->∃a:Addr,pa=some a/\n<=ca/\0<=a.block/\∀i,i<n->UpC 0 w (a.add (i*2)) (U i))/\Kb 0 w w1/\G=w.heap.size):=(⟨ha2,hk1,hG⟩:_/\_)
 rw[<-hG]at hmk2;clear ha2 hk1 hw1 hn hG;go_enter Tryz.func66,Tryz.ntmps66;go_wp2_with fail
 go_loopw [4] (λs4 wr=>∃i:Nat,s4=.int .i64 i/\i<=n/\Hid (∃E:Nat->List Value,Mk 2 w1 G n E i wr/\∀j,j<i->E j=[.bool (U j).1,.int .i64 (U j).2])) (λs4 _=>n-(intOf s4).toNat)
 case atStart=>exact⟨0,rfl,Nat.zero_le _,HI0⟩
 case round=>
  clear HI0 hmk2;obtain⟨i,rfl,hin,HI⟩:=hrel;obtain⟨E,hM,hR⟩:=(uh HI)
  have hA:=(uh HA)
  have hBW:Kb 0 w wr:=by
   have hG:=hA.2.2;have hA2:=hA.2.1;exact⟨hM.os.trans hA2.os,hM.output.trans hA2.output,Nat.le_trans hA2.size hM.size,λb _ hb=>(hM.block b (Nat.lt_of_lt_of_le hb hA2.size) (by omega)).trans (hA2.block b zq hb)⟩
  rcases Nat.lt_or_ge i n with hi|hi
  ·have hiI:(i:Int)<(n:Int):=by omega
   obtain⟨a,rfl,hca,_,hra⟩:=hA.1 (by omega);obtain⟨d0,d1⟩:=(hra i hi).keep zq hBW;have HT:Hid (Calls Tryz.prog 103 #[upv (U i)] wr λe w'=>e=.returned (upv (U i))/\Kb 0 wr w'):=to_up (U i) wr
   have HS:Hid (∀w6,Kb 0 wr w6->(∀t,t<2->∃u,w6.cell? ⟨G,i*2+t,none⟩=some u)/\(∀j,w6.frozen? ⟨G,j,none⟩=false)/\∃E:Nat->List Value,Mk 2 w1 G n E (i+1) (setL w6 G (i*2) [.bool (U i).1,.int .i64 (U i).2])/\∀j,j<i+1->E j=[.bool (U j).1,.int .i64 (U j).2]):=by
    show ∀w6,_;intro w6  k6;have h6:=hM.kb k6;have hgl:=Nat.lt_of_lt_of_le hM.gl hM.size;have kl:Kb (G+1) w6 (setL w6 G (i*2) [.bool (U i).1,.int .i64 (U i).2]):=⟨(setL_os _ _ _ _).1,(setL_os _ _ _ _).2,by rw[setL_size];exact Nat.le_refl _,λk h1 _=>setL_block _ _ (by omega) _ _ _⟩
    refine⟨h6.rest i (Nat.le_refl _) hi,h6.fz,_,h6.step hi rfl,λj hj=>?_⟩;by_cases e:j=i
    ·subst e;exact if_pos rfl
    ·rw[if_neg e];exact hR j (by omega)
   clear hA HA hM hR HI hra hin hBW;go_wp2_with fail;refine(uh HT).mono ?_;rintro e w6 ⟨rfl,k6⟩;obtain⟨hc,hf,hT⟩:=(uh HS) w6 k6;have HTT:Hid (∃E:Nat->List Value,Mk 2 w1 G n E (i+1) (setL w6 G (i*2) [.bool (U i).1,.int .i64 (U i).2])/\∀j,j<i+1->E j=[.bool (U j).1,.int .i64 (U j).2]):=hT;obtain⟨u0,h0⟩:=hc 0 (by omega);obtain⟨u1,h1⟩:=hc 1 (by omega);rw[Nat.add_zero]at h0;have e0:=hf (i*2);have e1:=hf (i*2+1);clear hc hf hT HS HT
   clear k6 d0 d1;unfold upv;go_wp2_with fail;go_roundw
   case rel=>exact⟨i+1,by go_num,by omega,HTT⟩
   case measure=>simp[intOf];omega
  ·obtain rfl:i=n:=by omega
   have HE:Hid (Mk 2 w1 G i E i wr/\(∀j,j<i->E j=[.bool (U j).1,.int .i64 (U j).2])/\Kb 0 w wr/\G=w.heap.size):=(⟨hM,hR,hBW,hA.2.2⟩:_/\_/\_/\_)
   clear HI hM hR hA HA hBW;go_wp2_with fail;go_ret;obtain⟨hM,hR,hB,hG⟩:=(uh HE)
   refine⟨_,rfl,⟨_,_,rfl,⟨_,_,rfl,λ_=>⟨⟨G,0,none⟩,rfl,Nat.le_refl _,(by show w.heap.size<=G;omega),λj hj=>?_⟩⟩,⟨G,rfl,rfl,(by omega),Nat.lt_of_lt_of_le hM.gl hM.size,hM.fz⟩⟩,hB⟩;rw[addr0];have hce:=hM.ce j hj;rw[hR j hj]at hce;exact CelU.of hce
theorem to_inssF(w:World)(ha:RowI 0 w va n N)(hn:n<=1048576):
  Calls Tryz.prog 68 #[va] w λe w'=>∃v,e=.returned v/\RowIF w.heap.size w' v n N/\Kb 0 w w':=by
 obtain⟨pa,ca,rfl,ha2⟩:=ha;have hnI:(n:Int)<=1048576:=by omega
 have hmk:=run_make (P:=Tryz.prog) w 49 79 Tryz.t79 (.agg #[.int .i64 0,.int .i64 0,.int .i64 0,.int .i64 0,.int .i64 0]) Tryz.underlying49 (by kernel_rfl) (by kernel_rfl) .i64 .i64 (n:Int) (n:Int) (by omega) (Int.le_refl _) (by show(40:Int)*(n:Int)<=_;omega) (by omega);rw[Int.toNat_natCast]at hmk;obtain⟨w1,hw1⟩:∃w1,w1=w.alloc (.cells (madeCells (.agg #[.int .i64 0,.int .i64 0,.int .i64 0,.int .i64 0,.int .i64 0]:Value).cells (n*5)) 79):=⟨_,rfl⟩
 have hmk2:=hmk;rw[show n*Tryz.t79.size=n*5 from rfl,<-hw1]at hmk2;clear hmk;have hk1:Kb 0 w w1:=by rw[hw1];exact kb_alloc _ _ _
 obtain⟨G,hG⟩:∃G,G=w.heap.size:=⟨_,rfl⟩
 have HI0:Hid (∃E:Nat->List Value,Mk 5 w1 G n E 0 w1/\∀j,j<0->E j=[.int .i64 (N j).o,.int .i64 (N j).a,.int .i64 (N j).b,.int .i64 (N j).c,.int .i64 (N j).d]):=by
  refine⟨λ_=>[],?_,λj hj=>by omega⟩;rw[hG,hw1];exact mk_zero w _ 5 _ n _ rfl
 have HA:Hid ((0<n->∃a:Addr,pa=some a/\n<=ca/\0<=a.block/\∀i,i<n->InsC 0 w (a.add (i*5)) (N i))/\Kb 0 w w1/\G=w.heap.size):=(⟨ha2,hk1,hG⟩:_/\_)
 rw[<-hG]at hmk2;clear ha2 hk1 hw1 hn hG;go_enter Tryz.func68,Tryz.ntmps68;go_wp2_with fail
 go_loopw [4] (λs4 wr=>∃i:Nat,s4=.int .i64 i/\i<=n/\Hid (∃E:Nat->List Value,Mk 5 w1 G n E i wr/\∀j,j<i->E j=[.int .i64 (N j).o,.int .i64 (N j).a,.int .i64 (N j).b,.int .i64 (N j).c,.int .i64 (N j).d])) (λs4 _=>n-(intOf s4).toNat)
 case atStart=>exact⟨0,rfl,Nat.zero_le _,HI0⟩
 case round=>
  clear HI0 hmk2;obtain⟨i,rfl,hin,HI⟩:=hrel;obtain⟨E,hM,hR⟩:=(uh HI)
  have hA:=(uh HA)
  have hBW:Kb 0 w wr:=by
   have hG:=hA.2.2;have hA2:=hA.2.1;exact⟨hM.os.trans hA2.os,hM.output.trans hA2.output,Nat.le_trans hA2.size hM.size,λb _ hb=>(hM.block b (Nat.lt_of_lt_of_le hb hA2.size) (by omega)).trans (hA2.block b zq hb)⟩
  rcases Nat.lt_or_ge i n with hi|hi
  ·have hiI:(i:Int)<(n:Int):=by omega
   obtain⟨a,rfl,hca,_,hra⟩:=hA.1 (by omega);obtain⟨d0,d1,d2,d3,d4⟩:=(hra i hi).keep zq hBW;have HT:Hid (Calls Tryz.prog 105 #[insv (N i)] wr λe w'=>e=.returned (insv (N i))/\Kb 0 wr w'):=to_ins (N i) wr
   have HS:Hid (∀w6,Kb 0 wr w6->(∀t,t<5->∃u,w6.cell? ⟨G,i*5+t,none⟩=some u)/\(∀j,w6.frozen? ⟨G,j,none⟩=false)/\∃E:Nat->List Value,Mk 5 w1 G n E (i+1) (setL w6 G (i*5) [.int .i64 (N i).o,.int .i64 (N i).a,.int .i64 (N i).b,.int .i64 (N i).c,.int .i64 (N i).d])/\∀j,j<i+1->E j=[.int .i64 (N j).o,.int .i64 (N j).a,.int .i64 (N j).b,.int .i64 (N j).c,.int .i64 (N j).d]):=by
    show ∀w6,_;intro w6  k6;have h6:=hM.kb k6;have hgl:=Nat.lt_of_lt_of_le hM.gl hM.size;have kl:Kb (G+1) w6 (setL w6 G (i*5) [.int .i64 (N i).o,.int .i64 (N i).a,.int .i64 (N i).b,.int .i64 (N i).c,.int .i64 (N i).d]):=⟨(setL_os _ _ _ _).1,(setL_os _ _ _ _).2,by rw[setL_size];exact Nat.le_refl _,λk h1 _=>setL_block _ _ (by omega) _ _ _⟩
    refine⟨h6.rest i (Nat.le_refl _) hi,h6.fz,_,h6.step hi rfl,λj hj=>?_⟩;by_cases e:j=i
    ·subst e;exact if_pos rfl
    ·rw[if_neg e];exact hR j (by omega)
   clear hA HA hM hR HI hra hin hBW;go_wp2_with fail;refine(uh HT).mono ?_;rintro e w6 ⟨rfl,k6⟩;obtain⟨hc,hf,hT⟩:=(uh HS) w6 k6;have HTT:Hid (∃E:Nat->List Value,Mk 5 w1 G n E (i+1) (setL w6 G (i*5) [.int .i64 (N i).o,.int .i64 (N i).a,.int .i64 (N i).b,.int .i64 (N i).c,.int .i64 (N i).d])/\∀j,j<i+1->E j=[.int .i64 (N j).o,.int .i64 (N j).a,.int .i64 (N j).b,.int .i64 (N j).c,.int .i64 (N j).d]):=hT;obtain⟨u0,h0⟩:=hc 0 (by omega);obtain⟨u1,h1⟩:=hc 1 (by omega);obtain⟨u2,h2⟩:=hc 2 (by omega);obtain⟨u3,h3⟩:=hc 3 (by omega);obtain⟨u4,h4⟩:=hc 4 (by omega);rw[Nat.add_zero]at h0;have e0:=hf (i*5);have e1:=hf (i*5+1);have e2:=hf (i*5+2);have e3:=hf (i*5+3);have e4:=hf (i*5+4);clear hc hf hT HS HT
   clear k6 d0 d1 d2 d3 d4;unfold insv;go_wp2_with fail;go_roundw
   case rel=>exact⟨i+1,by go_num,by omega,HTT⟩
   case measure=>simp[intOf];omega
  ·obtain rfl:i=n:=by omega
   have HE:Hid (Mk 5 w1 G i E i wr/\(∀j,j<i->E j=[.int .i64 (N j).o,.int .i64 (N j).a,.int .i64 (N j).b,.int .i64 (N j).c,.int .i64 (N j).d])/\Kb 0 w wr/\G=w.heap.size):=(⟨hM,hR,hBW,hA.2.2⟩:_/\_/\_/\_)
   clear HI hM hR hA HA hBW;go_wp2_with fail;go_ret;obtain⟨hM,hR,hB,hG⟩:=(uh HE)
   refine⟨_,rfl,⟨_,_,rfl,⟨_,_,rfl,λ_=>⟨⟨G,0,none⟩,rfl,Nat.le_refl _,(by show w.heap.size<=G;omega),λj hj=>?_⟩⟩,⟨G,rfl,rfl,(by omega),Nat.lt_of_lt_of_le hM.gl hM.size,hM.fz⟩⟩,hB⟩;rw[addr0];have hce:=hM.ce j hj;rw[hR j hj]at hce;exact CelI.of hce
theorem to_namsF(w:World)(ha:RowM 0 w va n D)(hn:n<=1048576):
  Calls Tryz.prog 69 #[va] w λe w'=>∃v,e=.returned v/\RowMF w.heap.size w' v n D/\Kb 0 w w':=by
 obtain⟨pa,ca,rfl,ha2⟩:=ha;have hnI:(n:Int)<=1048576:=by omega
 have hmk:=run_make (P:=Tryz.prog) w 50 153 Tryz.t153 (.agg #[.string ⟨#[]⟩,.int .i64 0,.int .i64 0,.int .i64 0]) Tryz.underlying50 (by kernel_rfl) (by kernel_rfl) .i64 .i64 (n:Int) (n:Int) (by omega) (Int.le_refl _) (by show(40:Int)*(n:Int)<=_;omega) (by omega);rw[Int.toNat_natCast]at hmk;obtain⟨w1,hw1⟩:∃w1,w1=w.alloc (.cells (madeCells (.agg #[.string ⟨#[]⟩,.int .i64 0,.int .i64 0,.int .i64 0]:Value).cells (n*4)) 153):=⟨_,rfl⟩
 have hmk2:=hmk;rw[show n*Tryz.t153.size=n*4 from rfl,<-hw1]at hmk2;clear hmk;have hk1:Kb 0 w w1:=by rw[hw1];exact kb_alloc _ _ _
 obtain⟨G,hG⟩:∃G,G=w.heap.size:=⟨_,rfl⟩
 have HI0:Hid (∃E:Nat->List Value,Mk 4 w1 G n E 0 w1/\∀j,j<0->E j=[.string (D j).x,.int .i64 (D j).g,.int .i64 (D j).f,.int .i64 (D j).t]):=by
  refine⟨λ_=>[],?_,λj hj=>by omega⟩;rw[hG,hw1];exact mk_zero w _ 4 _ n _ rfl
 have HA:Hid ((0<n->∃a:Addr,pa=some a/\n<=ca/\0<=a.block/\∀i,i<n->NamC 0 w (a.add (i*4)) (D i))/\Kb 0 w w1/\G=w.heap.size):=(⟨ha2,hk1,hG⟩:_/\_)
 rw[<-hG]at hmk2;clear ha2 hk1 hw1 hn hG;go_enter Tryz.func69,Tryz.ntmps69;go_wp2_with fail
 go_loopw [4] (λs4 wr=>∃i:Nat,s4=.int .i64 i/\i<=n/\Hid (∃E:Nat->List Value,Mk 4 w1 G n E i wr/\∀j,j<i->E j=[.string (D j).x,.int .i64 (D j).g,.int .i64 (D j).f,.int .i64 (D j).t])) (λs4 _=>n-(intOf s4).toNat)
 case atStart=>exact⟨0,rfl,Nat.zero_le _,HI0⟩
 case round=>
  clear HI0 hmk2;obtain⟨i,rfl,hin,HI⟩:=hrel;obtain⟨E,hM,hR⟩:=(uh HI)
  have hA:=(uh HA)
  have hBW:Kb 0 w wr:=by
   have hG:=hA.2.2;have hA2:=hA.2.1;exact⟨hM.os.trans hA2.os,hM.output.trans hA2.output,Nat.le_trans hA2.size hM.size,λb _ hb=>(hM.block b (Nat.lt_of_lt_of_le hb hA2.size) (by omega)).trans (hA2.block b zq hb)⟩
  rcases Nat.lt_or_ge i n with hi|hi
  ·have hiI:(i:Int)<(n:Int):=by omega
   obtain⟨a,rfl,hca,_,hra⟩:=hA.1 (by omega);obtain⟨d0,d1,d2,d3⟩:=(hra i hi).keep zq hBW;have HT:Hid (Calls Tryz.prog 106 #[namv (D i)] wr λe w'=>e=.returned (namv (D i))/\Kb 0 wr w'):=to_nam (D i) wr
   have HS:Hid (∀w6,Kb 0 wr w6->(∀t,t<4->∃u,w6.cell? ⟨G,i*4+t,none⟩=some u)/\(∀j,w6.frozen? ⟨G,j,none⟩=false)/\∃E:Nat->List Value,Mk 4 w1 G n E (i+1) (setL w6 G (i*4) [.string (D i).x,.int .i64 (D i).g,.int .i64 (D i).f,.int .i64 (D i).t])/\∀j,j<i+1->E j=[.string (D j).x,.int .i64 (D j).g,.int .i64 (D j).f,.int .i64 (D j).t]):=by
    show ∀w6,_;intro w6  k6;have h6:=hM.kb k6;have hgl:=Nat.lt_of_lt_of_le hM.gl hM.size;have kl:Kb (G+1) w6 (setL w6 G (i*4) [.string (D i).x,.int .i64 (D i).g,.int .i64 (D i).f,.int .i64 (D i).t]):=⟨(setL_os _ _ _ _).1,(setL_os _ _ _ _).2,by rw[setL_size];exact Nat.le_refl _,λk h1 _=>setL_block _ _ (by omega) _ _ _⟩
    refine⟨h6.rest i (Nat.le_refl _) hi,h6.fz,_,h6.step hi rfl,λj hj=>?_⟩;by_cases e:j=i
    ·subst e;exact if_pos rfl
    ·rw[if_neg e];exact hR j (by omega)
   clear hA HA hM hR HI hra hin hBW;go_wp2_with fail;refine(uh HT).mono ?_;rintro e w6 ⟨rfl,k6⟩;obtain⟨hc,hf,hT⟩:=(uh HS) w6 k6;have HTT:Hid (∃E:Nat->List Value,Mk 4 w1 G n E (i+1) (setL w6 G (i*4) [.string (D i).x,.int .i64 (D i).g,.int .i64 (D i).f,.int .i64 (D i).t])/\∀j,j<i+1->E j=[.string (D j).x,.int .i64 (D j).g,.int .i64 (D j).f,.int .i64 (D j).t]):=hT;obtain⟨u0,h0⟩:=hc 0 (by omega);obtain⟨u1,h1⟩:=hc 1 (by omega);obtain⟨u2,h2⟩:=hc 2 (by omega);obtain⟨u3,h3⟩:=hc 3 (by omega);rw[Nat.add_zero]at h0;have e0:=hf (i*4);have e1:=hf (i*4+1);have e2:=hf (i*4+2);have e3:=hf (i*4+3);clear hc hf hT HS HT
   clear k6 d0 d1 d2 d3;unfold namv;go_wp2_with fail;go_roundw
   case rel=>exact⟨i+1,by go_num,by omega,HTT⟩
   case measure=>simp[intOf];omega
  ·obtain rfl:i=n:=by omega
   have HE:Hid (Mk 4 w1 G i E i wr/\(∀j,j<i->E j=[.string (D j).x,.int .i64 (D j).g,.int .i64 (D j).f,.int .i64 (D j).t])/\Kb 0 w wr/\G=w.heap.size):=(⟨hM,hR,hBW,hA.2.2⟩:_/\_/\_/\_)
   clear HI hM hR hA HA hBW;go_wp2_with fail;go_ret;obtain⟨hM,hR,hB,hG⟩:=(uh HE)
   refine⟨_,rfl,⟨_,_,rfl,⟨_,_,rfl,λ_=>⟨⟨G,0,none⟩,rfl,Nat.le_refl _,(by show w.heap.size<=G;omega),λj hj=>?_⟩⟩,⟨G,rfl,rfl,(by omega),Nat.lt_of_lt_of_le hM.gl hM.size,hM.fz⟩⟩,hB⟩;rw[addr0];have hce:=hM.ce j hj;rw[hR j hj]at hce;exact CelM.of hce
theorem to_valsF(w:World)(ha:RowW 0 w va n C)(hn:n<=1048576):
  Calls Tryz.prog 67 #[va] w λe w'=>∃v,e=.returned v/\RowWF w.heap.size w' v n C/\Kb 0 w w':=by
 obtain⟨pa,ca,rfl,ha2⟩:=ha;have hnI:(n:Int)<=1048576:=by omega
 have hmk:=run_make (P:=Tryz.prog) w 48 151 Tryz.t151 (.agg #[.int .i64 0,.int .i64 0,.float .f64 0,.string ⟨#[]⟩,.int .i64 0]) Tryz.underlying48 (by kernel_rfl) (by kernel_rfl) .i64 .i64 (n:Int) (n:Int) (by omega) (Int.le_refl _) (by show(48:Int)*(n:Int)<=_;omega) (by omega);rw[Int.toNat_natCast]at hmk;obtain⟨w1,hw1⟩:∃w1,w1=w.alloc (.cells (madeCells (.agg #[.int .i64 0,.int .i64 0,.float .f64 0,.string ⟨#[]⟩,.int .i64 0]:Value).cells (n*5)) 151):=⟨_,rfl⟩
 have hmk2:=hmk;rw[show n*Tryz.t151.size=n*5 from rfl,<-hw1]at hmk2;clear hmk;have hk1:Kb 0 w w1:=by rw[hw1];exact kb_alloc _ _ _
 obtain⟨G,hG⟩:∃G,G=w.heap.size:=⟨_,rfl⟩
 have HI0:Hid (∃E:Nat->List Value,Mk 5 w1 G n E 0 w1/\∀j,j<0->E j=[.int .i64 (C j).k,.int .i64 (C j).m,.float .f64 (C j).g,.string (C j).x,.int .i64 (C j).r]):=by
  refine⟨λ_=>[],?_,λj hj=>by omega⟩;rw[hG,hw1];exact mk_zero w _ 5 _ n _ rfl
 have HA:Hid ((0<n->∃a:Addr,pa=some a/\n<=ca/\0<=a.block/\∀i,i<n->ValC 0 w (a.add (i*5)) (C i))/\Kb 0 w w1/\G=w.heap.size):=(⟨ha2,hk1,hG⟩:_/\_)
 rw[<-hG]at hmk2;clear ha2 hk1 hw1 hn hG;go_enter Tryz.func67,Tryz.ntmps67;go_wp2_with fail
 go_loopw [4] (λs4 wr=>∃i:Nat,s4=.int .i64 i/\i<=n/\Hid (∃E:Nat->List Value,Mk 5 w1 G n E i wr/\∀j,j<i->E j=[.int .i64 (C j).k,.int .i64 (C j).m,.float .f64 (C j).g,.string (C j).x,.int .i64 (C j).r])) (λs4 _=>n-(intOf s4).toNat)
 case atStart=>exact⟨0,rfl,Nat.zero_le _,HI0⟩
 case round=>
  clear HI0 hmk2;obtain⟨i,rfl,hin,HI⟩:=hrel;obtain⟨E,hM,hR⟩:=(uh HI)
  have hA:=(uh HA)
  have hBW:Kb 0 w wr:=by
   have hG:=hA.2.2;have hA2:=hA.2.1;exact⟨hM.os.trans hA2.os,hM.output.trans hA2.output,Nat.le_trans hA2.size hM.size,λb _ hb=>(hM.block b (Nat.lt_of_lt_of_le hb hA2.size) (by omega)).trans (hA2.block b zq hb)⟩
  rcases Nat.lt_or_ge i n with hi|hi
  ·have hiI:(i:Int)<(n:Int):=by omega
   obtain⟨a,rfl,hca,_,hra⟩:=hA.1 (by omega);obtain⟨d0,d1,d2,d3,d4⟩:=(hra i hi).keep zq hBW;have HT:Hid (Calls Tryz.prog 104 #[valv (C i)] wr λe w'=>e=.returned (valv (C i))/\Kb 0 wr w'):=to_valu (C i) wr
   have HS:Hid (∀w6,Kb 0 wr w6->(∀t,t<5->∃u,w6.cell? ⟨G,i*5+t,none⟩=some u)/\(∀j,w6.frozen? ⟨G,j,none⟩=false)/\∃E:Nat->List Value,Mk 5 w1 G n E (i+1) (setL w6 G (i*5) [.int .i64 (C i).k,.int .i64 (C i).m,.float .f64 (C i).g,.string (C i).x,.int .i64 (C i).r])/\∀j,j<i+1->E j=[.int .i64 (C j).k,.int .i64 (C j).m,.float .f64 (C j).g,.string (C j).x,.int .i64 (C j).r]):=by
    show ∀w6,_;intro w6  k6;have h6:=hM.kb k6;have hgl:=Nat.lt_of_lt_of_le hM.gl hM.size;have kl:Kb (G+1) w6 (setL w6 G (i*5) [.int .i64 (C i).k,.int .i64 (C i).m,.float .f64 (C i).g,.string (C i).x,.int .i64 (C i).r]):=⟨(setL_os _ _ _ _).1,(setL_os _ _ _ _).2,by rw[setL_size];exact Nat.le_refl _,λk h1 _=>setL_block _ _ (by omega) _ _ _⟩
    refine⟨h6.rest i (Nat.le_refl _) hi,h6.fz,_,h6.step hi rfl,λj hj=>?_⟩;by_cases e:j=i
    ·subst e;exact if_pos rfl
    ·rw[if_neg e];exact hR j (by omega)
   clear hA HA hM hR HI hra hin hBW;go_wp2_with fail;refine(uh HT).mono ?_;rintro e w6 ⟨rfl,k6⟩;obtain⟨hc,hf,hT⟩:=(uh HS) w6 k6;have HTT:Hid (∃E:Nat->List Value,Mk 5 w1 G n E (i+1) (setL w6 G (i*5) [.int .i64 (C i).k,.int .i64 (C i).m,.float .f64 (C i).g,.string (C i).x,.int .i64 (C i).r])/\∀j,j<i+1->E j=[.int .i64 (C j).k,.int .i64 (C j).m,.float .f64 (C j).g,.string (C j).x,.int .i64 (C j).r]):=hT;obtain⟨u0,h0⟩:=hc 0 (by omega);obtain⟨u1,h1⟩:=hc 1 (by omega);obtain⟨u2,h2⟩:=hc 2 (by omega);obtain⟨u3,h3⟩:=hc 3 (by omega);obtain⟨u4,h4⟩:=hc 4 (by omega);rw[Nat.add_zero]at h0;have e0:=hf (i*5);have e1:=hf (i*5+1);have e2:=hf (i*5+2);have e3:=hf (i*5+3);have e4:=hf (i*5+4);clear hc hf hT HS HT
   clear k6 d0 d1 d2 d3 d4;have hst:=hst0;unfold valv;go_wp2_with fail;go_roundw
   case rel=>exact⟨i+1,by go_num,by omega,HTT⟩
   case measure=>simp[intOf];omega
  ·obtain rfl:i=n:=by omega
   have HE:Hid (Mk 5 w1 G i E i wr/\(∀j,j<i->E j=[.int .i64 (C j).k,.int .i64 (C j).m,.float .f64 (C j).g,.string (C j).x,.int .i64 (C j).r])/\Kb 0 w wr/\G=w.heap.size):=(⟨hM,hR,hBW,hA.2.2⟩:_/\_/\_/\_)
   clear HI hM hR hA HA hBW;go_wp2_with fail;go_ret;obtain⟨hM,hR,hB,hG⟩:=(uh HE)
   refine⟨_,rfl,⟨_,_,rfl,⟨_,_,rfl,λ_=>⟨⟨G,0,none⟩,rfl,Nat.le_refl _,(by show w.heap.size<=G;omega),λj hj=>?_⟩⟩,⟨G,rfl,rfl,(by omega),Nat.lt_of_lt_of_le hM.gl hM.size,hM.fz⟩⟩,hB⟩;rw[addr0];have hce:=hM.ce j hj;rw[hR j hj]at hce;exact CelV.of hce
theorem to_proF{f:Pd}{vu vc vn vd:Value}{u d:Nat}(w:World)
  (g0:∀W,Kb 0 w W->Calls Tryz.prog 66 #[vu] W λe w'=>∃v,e=.returned v/\RowUF W.heap.size w' (v) u U/\Kb 0 W w')
  (g1:∀W,Kb 0 w W->Calls Tryz.prog 67 #[vc] W λe w'=>∃v,e=.returned v/\RowWF W.heap.size w' (v) c C/\Kb 0 W w')
  (g2:∀W,Kb 0 w W->Calls Tryz.prog 68 #[vn] W λe w'=>∃v,e=.returned v/\RowIF W.heap.size w' (v) n N/\Kb 0 W w')
  (g3:∀W,Kb 0 w W->Calls Tryz.prog 69 #[vd] W λe w'=>∃v,e=.returned v/\RowMF W.heap.size w' (v) d D/\Kb 0 W w'):
  Calls Tryz.prog 41 #[prov f vu vc vn vd] w λe w'=>∃v0 v1 v2 v3,e=.returned (prov f v0 v1 v2 v3)/\RowUF w.heap.size w' (v0) u U/\RowWF w.heap.size w' (v1) c C/\RowIF w.heap.size w' (v2) n N/\RowMF w.heap.size w' (v3) d D/\Kb 0 w w':=by
 have G0:Hid (∀W,Kb 0 w W->Calls Tryz.prog 66 #[vu] W λe w'=>∃v,e=.returned v/\RowUF W.heap.size w' (v) u U/\Kb 0 W w'):=g0;have G1:Hid (∀W,Kb 0 w W->Calls Tryz.prog 67 #[vc] W λe w'=>∃v,e=.returned v/\RowWF W.heap.size w' (v) c C/\Kb 0 W w'):=g1;have G2:Hid (∀W,Kb 0 w W->Calls Tryz.prog 68 #[vn] W λe w'=>∃v,e=.returned v/\RowIF W.heap.size w' (v) n N/\Kb 0 W w'):=g2;have G3:Hid (∀W,Kb 0 w W->Calls Tryz.prog 69 #[vd] W λe w'=>∃v,e=.returned v/\RowMF W.heap.size w' (v) d D/\Kb 0 W w'):=g3;clear g0 g1 g2 g3;unfold prov;go_enter Tryz.func41,Tryz.ntmps41;go_wp2_with fail;obtain⟨w3,hw3⟩:∃w3,w3=((w.alloc (.cells #[.string f.x,.int .i64 f.l,.int .i64 f.m,.bool f.r,.int .i64 f.g,vu,vc,vn,vd] 74)).alloc (.cells #[.string ⟨#[]⟩,.int .i64 0,.int .i64 0,.bool false,.int .i64 0,.slice none 0 0,.slice none 0 0,.slice none 0 0,.slice none 0 0] 52)).alloc (.cells #[.string f.x,.int .i64 f.l,.int .i64 f.m,.bool f.r,.int .i64 f.g,.slice none 0 0,.slice none 0 0,.slice none 0 0,.slice none 0 0] 52):=⟨_,rfl⟩
 rw[<-hw3];obtain⟨b0,b1,b2,z3,k3⟩:=three_new w _ _ _ _ _ _ w3 hw3;clear hw3;refine((show ∀W,Kb 0 w W->Calls Tryz.prog 66 #[vu] W λe w'=>∃v,e=.returned v/\RowUF W.heap.size w' (v) u U/\Kb 0 W w' from G0) w3 k3).mono ?_;rintro e x0 ⟨v0,rfl,r0,q0⟩;clear G0;have zq0:=q0.size;have zz0:w.heap.size+3<=w3.heap.size:=by omega
 have b0x0:x0.heap[w.heap.size]? =some (.cells #[.string f.x,.int .i64 f.l,.int .i64 f.m,.bool f.r,.int .i64 f.g,vu,vc,vn,vd] 74 (0,0)):=(q0.block _ zq (by omega)).trans b0;have b1x0:x0.heap[w.heap.size+1]? =some (.cells #[.string ⟨#[]⟩,.int .i64 0,.int .i64 0,.bool false,.int .i64 0,.slice none 0 0,.slice none 0 0,.slice none 0 0,.slice none 0 0] 52 (0,0)):=(q0.block _ zq (by omega)).trans b1;have b2x0:x0.heap[w.heap.size+1+1]? =some (.cells #[.string f.x,.int .i64 f.l,.int .i64 f.m,.bool f.r,.int .i64 f.g,.slice none 0 0,.slice none 0 0,.slice none 0 0,.slice none 0 0] 52 (0,0)):=(q0.block _ zq (by omega)).trans b2;clear b0 b1 b2;obtain⟨p0,l0,rfl,_⟩:=id r0;have o0:x0.cell? ⟨w.heap.size+1+1,5,none⟩=some (.slice none 0 0):=cell_of b2x0 rfl;have f0:x0.frozen? ⟨w.heap.size+1+1,5,none⟩=false:=frozen_of b2x0;have n0:x0.cell? ⟨w.heap.size,6,none⟩=some (vc):=cell_of b0x0 rfl;obtain⟨y0,hy0⟩:∃W,W=x0.setCell ⟨w.heap.size+1+1,5,none⟩ (.slice p0 u l0):=⟨_,rfl⟩
 have c0:y0.heap[w.heap.size]? =some (.cells #[.string f.x,.int .i64 f.l,.int .i64 f.m,.bool f.r,.int .i64 f.g,vu,vc,vn,vd] 74 (0,0)):=by rw[hy0,Below.heap_setCell _ _ _ _ (show w.heap.size≠w.heap.size+1+1 by omega)];exact b0x0
 have c1:y0.heap[w.heap.size+1]? =some (.cells #[.string ⟨#[]⟩,.int .i64 0,.int .i64 0,.bool false,.int .i64 0,.slice none 0 0,.slice none 0 0,.slice none 0 0,.slice none 0 0] 52 (0,0)):=by rw[hy0,Below.heap_setCell _ _ _ _ (show w.heap.size+1≠w.heap.size+1+1 by omega)];exact b1x0
 have c2:y0.heap[w.heap.size+1+1]? =some (.cells #[.string f.x,.int .i64 f.l,.int .i64 f.m,.bool f.r,.int .i64 f.g,.slice p0 u l0,.slice none 0 0,.slice none 0 0,.slice none 0 0] 52 (0,0)):=by rw[hy0];exact set_known _ b2x0
 have ky0:Kb 0 w y0:=by rw[hy0];exact(k3.trans q0).setCell _ (Or.inr (by show w.heap.size<=w.heap.size+1+1;omega)) _
 have qy0:Kb (w.heap.size+3) x0 y0:=by rw[hy0];exact(Kb.refl _ _).setCell _ (Or.inl (by show w.heap.size+1+1<w.heap.size+3;omega)) _
 have zy0:y0.heap.size=x0.heap.size:=by rw[hy0];simp
 have HX0:Hid ((y0.heap[w.heap.size]? =some (.cells #[.string f.x,.int .i64 f.l,.int .i64 f.m,.bool f.r,.int .i64 f.g,vu,vc,vn,vd] 74 (0,0))/\y0.heap[w.heap.size+1]? =some (.cells #[.string ⟨#[]⟩,.int .i64 0,.int .i64 0,.bool false,.int .i64 0,.slice none 0 0,.slice none 0 0,.slice none 0 0,.slice none 0 0] 52 (0,0))/\y0.heap[w.heap.size+1+1]? =some (.cells #[.string f.x,.int .i64 f.l,.int .i64 f.m,.bool f.r,.int .i64 f.g,.slice p0 u l0,.slice none 0 0,.slice none 0 0,.slice none 0 0] 52 (0,0)))/\Kb 0 w y0/\Kb (w.heap.size+3) x0 y0/\y0.heap.size=x0.heap.size/\RowUF w3.heap.size x0 (.slice p0 u l0) u U/\w.heap.size+3<=w3.heap.size/\w3.heap.size<=x0.heap.size):=(⟨⟨c0,c1,c2⟩,ky0,qy0,zy0,r0,(by omega:w.heap.size+3<=w3.heap.size),zq0⟩:_/\_)
 have HW0:Hid (y0=x0.setCell ⟨w.heap.size+1+1,5,none⟩ (.slice p0 u l0)):=hy0;clear b0x0 b1x0 b2x0 c0 c1 c2 ky0 qy0 zy0 r0 q0 zq0 hy0 zz0 z3 k3;go_wp2_with fail;rw[<-(uh HW0)];clear HW0 o0 f0 n0;obtain⟨⟨b0,b1,b2⟩,ky0,qy0,zy0,r0,zu0,zv0⟩:=(uh HX0)
 clear HX0;have zz1:w.heap.size+3<=y0.heap.size:=by omega
 have s0:=(r0.mono (show w.heap.size+3<=w3.heap.size from zu0)).keep qy0;clear r0 qy0;refine((show ∀W,Kb 0 w W->Calls Tryz.prog 67 #[vc] W λe w'=>∃v,e=.returned v/\RowWF W.heap.size w' (v) c C/\Kb 0 W w' from G1) y0 ky0).mono ?_;rintro e x1 ⟨v1,rfl,r1,q1⟩;clear G1;have zq1:=q1.size;have b0x1:x1.heap[w.heap.size]? =some (.cells #[.string f.x,.int .i64 f.l,.int .i64 f.m,.bool f.r,.int .i64 f.g,vu,vc,vn,vd] 74 (0,0)):=(q1.block _ zq (by omega)).trans b0;have b1x1:x1.heap[w.heap.size+1]? =some (.cells #[.string ⟨#[]⟩,.int .i64 0,.int .i64 0,.bool false,.int .i64 0,.slice none 0 0,.slice none 0 0,.slice none 0 0,.slice none 0 0] 52 (0,0)):=(q1.block _ zq (by omega)).trans b1;have b2x1:x1.heap[w.heap.size+1+1]? =some (.cells #[.string f.x,.int .i64 f.l,.int .i64 f.m,.bool f.r,.int .i64 f.g,.slice p0 u l0,.slice none 0 0,.slice none 0 0,.slice none 0 0] 52 (0,0)):=(q1.block _ zq (by omega)).trans b2;clear b0 b1 b2;obtain⟨p1,l1,rfl,_⟩:=id r1;replace s0:=s0.keep (q1.mono zq);have o1:x1.cell? ⟨w.heap.size+1+1,6,none⟩=some (.slice none 0 0):=cell_of b2x1 rfl;have f1:x1.frozen? ⟨w.heap.size+1+1,6,none⟩=false:=frozen_of b2x1;have n1:x1.cell? ⟨w.heap.size,7,none⟩=some (vn):=cell_of b0x1 rfl;obtain⟨y1,hy1⟩:∃W,W=x1.setCell ⟨w.heap.size+1+1,6,none⟩ (.slice p1 c l1):=⟨_,rfl⟩
 have c0:y1.heap[w.heap.size]? =some (.cells #[.string f.x,.int .i64 f.l,.int .i64 f.m,.bool f.r,.int .i64 f.g,vu,vc,vn,vd] 74 (0,0)):=by rw[hy1,Below.heap_setCell _ _ _ _ (show w.heap.size≠w.heap.size+1+1 by omega)];exact b0x1
 have c1:y1.heap[w.heap.size+1]? =some (.cells #[.string ⟨#[]⟩,.int .i64 0,.int .i64 0,.bool false,.int .i64 0,.slice none 0 0,.slice none 0 0,.slice none 0 0,.slice none 0 0] 52 (0,0)):=by rw[hy1,Below.heap_setCell _ _ _ _ (show w.heap.size+1≠w.heap.size+1+1 by omega)];exact b1x1
 have c2:y1.heap[w.heap.size+1+1]? =some (.cells #[.string f.x,.int .i64 f.l,.int .i64 f.m,.bool f.r,.int .i64 f.g,.slice p0 u l0,.slice p1 c l1,.slice none 0 0,.slice none 0 0] 52 (0,0)):=by rw[hy1];exact set_known _ b2x1
 have ky1:Kb 0 w y1:=by rw[hy1];exact(ky0.trans q1).setCell _ (Or.inr (by show w.heap.size<=w.heap.size+1+1;omega)) _
 have qy1:Kb (w.heap.size+3) x1 y1:=by rw[hy1];exact(Kb.refl _ _).setCell _ (Or.inl (by show w.heap.size+1+1<w.heap.size+3;omega)) _
 have zy1:y1.heap.size=x1.heap.size:=by rw[hy1];simp
 have HX1:Hid ((y1.heap[w.heap.size]? =some (.cells #[.string f.x,.int .i64 f.l,.int .i64 f.m,.bool f.r,.int .i64 f.g,vu,vc,vn,vd] 74 (0,0))/\y1.heap[w.heap.size+1]? =some (.cells #[.string ⟨#[]⟩,.int .i64 0,.int .i64 0,.bool false,.int .i64 0,.slice none 0 0,.slice none 0 0,.slice none 0 0,.slice none 0 0] 52 (0,0))/\y1.heap[w.heap.size+1+1]? =some (.cells #[.string f.x,.int .i64 f.l,.int .i64 f.m,.bool f.r,.int .i64 f.g,.slice p0 u l0,.slice p1 c l1,.slice none 0 0,.slice none 0 0] 52 (0,0)))/\Kb 0 w y1/\Kb (w.heap.size+3) x1 y1/\y1.heap.size=x1.heap.size/\RowWF y0.heap.size x1 (.slice p1 c l1) c C/\w.heap.size+3<=y0.heap.size/\y0.heap.size<=x1.heap.size):=(⟨⟨c0,c1,c2⟩,ky1,qy1,zy1,r1,(by omega:w.heap.size+3<=y0.heap.size),zq1⟩:_/\_)
 have HW1:Hid (y1=x1.setCell ⟨w.heap.size+1+1,6,none⟩ (.slice p1 c l1)):=hy1;clear b0x1 b1x1 b2x1 c0 c1 c2 ky1 qy1 zy1 r1 q1 zq1 hy1 zz1;go_wp2_with fail;rw[<-(uh HW1)];clear HW1 o1 f1 n1;obtain⟨⟨b0,b1,b2⟩,ky1,qy1,zy1,r1,zu1,zv1⟩:=(uh HX1)
 clear HX1;have zz2:w.heap.size+3<=y1.heap.size:=by omega
 replace s0:=s0.keep qy1;have s1:=(r1.mono (show w.heap.size+3<=y0.heap.size from zu1)).keep qy1;clear r1 qy1;refine((show ∀W,Kb 0 w W->Calls Tryz.prog 68 #[vn] W λe w'=>∃v,e=.returned v/\RowIF W.heap.size w' (v) n N/\Kb 0 W w' from G2) y1 ky1).mono ?_;rintro e x2 ⟨v2,rfl,r2,q2⟩;clear G2;have zq2:=q2.size;have b0x2:x2.heap[w.heap.size]? =some (.cells #[.string f.x,.int .i64 f.l,.int .i64 f.m,.bool f.r,.int .i64 f.g,vu,vc,vn,vd] 74 (0,0)):=(q2.block _ zq (by omega)).trans b0;have b1x2:x2.heap[w.heap.size+1]? =some (.cells #[.string ⟨#[]⟩,.int .i64 0,.int .i64 0,.bool false,.int .i64 0,.slice none 0 0,.slice none 0 0,.slice none 0 0,.slice none 0 0] 52 (0,0)):=(q2.block _ zq (by omega)).trans b1;have b2x2:x2.heap[w.heap.size+1+1]? =some (.cells #[.string f.x,.int .i64 f.l,.int .i64 f.m,.bool f.r,.int .i64 f.g,.slice p0 u l0,.slice p1 c l1,.slice none 0 0,.slice none 0 0] 52 (0,0)):=(q2.block _ zq (by omega)).trans b2;clear b0 b1 b2;obtain⟨p2,l2,rfl,_⟩:=id r2;replace s0:=s0.keep (q2.mono zq);replace s1:=s1.keep (q2.mono zq);have o2:x2.cell? ⟨w.heap.size+1+1,7,none⟩=some (.slice none 0 0):=cell_of b2x2 rfl;have f2:x2.frozen? ⟨w.heap.size+1+1,7,none⟩=false:=frozen_of b2x2;have n2:x2.cell? ⟨w.heap.size,8,none⟩=some (vd):=cell_of b0x2 rfl;obtain⟨y2,hy2⟩:∃W,W=x2.setCell ⟨w.heap.size+1+1,7,none⟩ (.slice p2 n l2):=⟨_,rfl⟩
 have c0:y2.heap[w.heap.size]? =some (.cells #[.string f.x,.int .i64 f.l,.int .i64 f.m,.bool f.r,.int .i64 f.g,vu,vc,vn,vd] 74 (0,0)):=by rw[hy2,Below.heap_setCell _ _ _ _ (show w.heap.size≠w.heap.size+1+1 by omega)];exact b0x2
 have c1:y2.heap[w.heap.size+1]? =some (.cells #[.string ⟨#[]⟩,.int .i64 0,.int .i64 0,.bool false,.int .i64 0,.slice none 0 0,.slice none 0 0,.slice none 0 0,.slice none 0 0] 52 (0,0)):=by rw[hy2,Below.heap_setCell _ _ _ _ (show w.heap.size+1≠w.heap.size+1+1 by omega)];exact b1x2
 have c2:y2.heap[w.heap.size+1+1]? =some (.cells #[.string f.x,.int .i64 f.l,.int .i64 f.m,.bool f.r,.int .i64 f.g,.slice p0 u l0,.slice p1 c l1,.slice p2 n l2,.slice none 0 0] 52 (0,0)):=by rw[hy2];exact set_known _ b2x2
 have ky2:Kb 0 w y2:=by rw[hy2];exact(ky1.trans q2).setCell _ (Or.inr (by show w.heap.size<=w.heap.size+1+1;omega)) _
 have qy2:Kb (w.heap.size+3) x2 y2:=by rw[hy2];exact(Kb.refl _ _).setCell _ (Or.inl (by show w.heap.size+1+1<w.heap.size+3;omega)) _
 have zy2:y2.heap.size=x2.heap.size:=by rw[hy2];simp
 have HX2:Hid ((y2.heap[w.heap.size]? =some (.cells #[.string f.x,.int .i64 f.l,.int .i64 f.m,.bool f.r,.int .i64 f.g,vu,vc,vn,vd] 74 (0,0))/\y2.heap[w.heap.size+1]? =some (.cells #[.string ⟨#[]⟩,.int .i64 0,.int .i64 0,.bool false,.int .i64 0,.slice none 0 0,.slice none 0 0,.slice none 0 0,.slice none 0 0] 52 (0,0))/\y2.heap[w.heap.size+1+1]? =some (.cells #[.string f.x,.int .i64 f.l,.int .i64 f.m,.bool f.r,.int .i64 f.g,.slice p0 u l0,.slice p1 c l1,.slice p2 n l2,.slice none 0 0] 52 (0,0)))/\Kb 0 w y2/\Kb (w.heap.size+3) x2 y2/\y2.heap.size=x2.heap.size/\RowIF y1.heap.size x2 (.slice p2 n l2) n N/\w.heap.size+3<=y1.heap.size/\y1.heap.size<=x2.heap.size):=(⟨⟨c0,c1,c2⟩,ky2,qy2,zy2,r2,(by omega:w.heap.size+3<=y1.heap.size),zq2⟩:_/\_)
 have HW2:Hid (y2=x2.setCell ⟨w.heap.size+1+1,7,none⟩ (.slice p2 n l2)):=hy2;clear b0x2 b1x2 b2x2 c0 c1 c2 ky2 qy2 zy2 r2 q2 zq2 hy2 zz2;go_wp2_with fail;rw[<-(uh HW2)];clear HW2 o2 f2 n2;obtain⟨⟨b0,b1,b2⟩,ky2,qy2,zy2,r2,zu2,zv2⟩:=(uh HX2)
 clear HX2;have zz3:w.heap.size+3<=y2.heap.size:=by omega
 replace s0:=s0.keep qy2;replace s1:=s1.keep qy2;have s2:=(r2.mono (show w.heap.size+3<=y1.heap.size from zu2)).keep qy2;clear r2 qy2;refine((show ∀W,Kb 0 w W->Calls Tryz.prog 69 #[vd] W λe w'=>∃v,e=.returned v/\RowMF W.heap.size w' (v) d D/\Kb 0 W w' from G3) y2 ky2).mono ?_;rintro e x3 ⟨v3,rfl,r3,q3⟩;clear G3;have zq3:=q3.size;have b0x3:x3.heap[w.heap.size]? =some (.cells #[.string f.x,.int .i64 f.l,.int .i64 f.m,.bool f.r,.int .i64 f.g,vu,vc,vn,vd] 74 (0,0)):=(q3.block _ zq (by omega)).trans b0;have b1x3:x3.heap[w.heap.size+1]? =some (.cells #[.string ⟨#[]⟩,.int .i64 0,.int .i64 0,.bool false,.int .i64 0,.slice none 0 0,.slice none 0 0,.slice none 0 0,.slice none 0 0] 52 (0,0)):=(q3.block _ zq (by omega)).trans b1;have b2x3:x3.heap[w.heap.size+1+1]? =some (.cells #[.string f.x,.int .i64 f.l,.int .i64 f.m,.bool f.r,.int .i64 f.g,.slice p0 u l0,.slice p1 c l1,.slice p2 n l2,.slice none 0 0] 52 (0,0)):=(q3.block _ zq (by omega)).trans b2;clear b0 b1 b2;obtain⟨p3,l3,rfl,_⟩:=id r3;replace s0:=s0.keep (q3.mono zq);replace s1:=s1.keep (q3.mono zq);replace s2:=s2.keep (q3.mono zq);have s3:=r3.mono (show w.heap.size+3<=y2.heap.size by omega);have KW:=ky2.trans q3;have e0:x3.cell? ⟨w.heap.size+1+1,0,none⟩=some (.string f.x):=cell_of b2x3 rfl;have e1:x3.cell? ⟨w.heap.size+1+1,1,none⟩=some (.int .i64 f.l):=cell_of b2x3 rfl;have e2:x3.cell? ⟨w.heap.size+1+1,2,none⟩=some (.int .i64 f.m):=cell_of b2x3 rfl;have e3:x3.cell? ⟨w.heap.size+1+1,3,none⟩=some (.bool f.r):=cell_of b2x3 rfl;have e4:x3.cell? ⟨w.heap.size+1+1,4,none⟩=some (.int .i64 f.g):=cell_of b2x3 rfl;have e5:x3.cell? ⟨w.heap.size+1+1,5,none⟩=some (.slice p0 u l0):=cell_of b2x3 rfl;have e6:x3.cell? ⟨w.heap.size+1+1,6,none⟩=some (.slice p1 c l1):=cell_of b2x3 rfl;have e7:x3.cell? ⟨w.heap.size+1+1,7,none⟩=some (.slice p2 n l2):=cell_of b2x3 rfl;have e8:x3.cell? ⟨w.heap.size+1+1,8,none⟩=some (.slice none 0 0):=cell_of b2x3 rfl;have fz:x3.frozen? ⟨w.heap.size+1+1,8,none⟩=false:=frozen_of b2x3;have a0:x3.cell? ⟨w.heap.size+1,0,none⟩=some (.string ⟨#[]⟩):=cell_of b1x3 rfl;have a1:x3.cell? ⟨w.heap.size+1,1,none⟩=some (.int .i64 0):=cell_of b1x3 rfl;have a2:x3.cell? ⟨w.heap.size+1,2,none⟩=some (.int .i64 0):=cell_of b1x3 rfl;have a3:x3.cell? ⟨w.heap.size+1,3,none⟩=some (.bool false):=cell_of b1x3 rfl;have a4:x3.cell? ⟨w.heap.size+1,4,none⟩=some (.int .i64 0):=cell_of b1x3 rfl;have a5:x3.cell? ⟨w.heap.size+1,5,none⟩=some (.slice none 0 0):=cell_of b1x3 rfl;have a6:x3.cell? ⟨w.heap.size+1,6,none⟩=some (.slice none 0 0):=cell_of b1x3 rfl;have a7:x3.cell? ⟨w.heap.size+1,7,none⟩=some (.slice none 0 0):=cell_of b1x3 rfl;have a8:x3.cell? ⟨w.heap.size+1,8,none⟩=some (.slice none 0 0):=cell_of b1x3 rfl;have fy:∀j,x3.frozen? ⟨w.heap.size+1,j,none⟩=false:=λj=>frozen_of b1x3;have HE:Hid (Kb 0 w x3/\RowUF (w.heap.size+3) x3 (.slice p0 u l0) u U/\RowWF (w.heap.size+3) x3 (.slice p1 c l1) c C/\RowIF (w.heap.size+3) x3 (.slice p2 n l2) n N/\RowMF (w.heap.size+3) x3 (.slice p3 d l3) d D):=(⟨KW,s0,s1,s2,s3⟩:_/\_)
 clear KW s0 s1 s2 s3 b0x3 b1x3 b2x3 r3 q3 zq3 zz3 ky2 zu0 zv0 zy0 zu1 zv1 zy1 zu2 zv2 zy2;go_wp2_with fail;refine bodyPost_ret (by simp[results,Tryz.results41,go_sem,a0,a1,a2,a3,a4,a5,a6,a7,a8];rfl) rfl ?_;obtain⟨KW,s0,s1,s2,s3⟩:=(uh HE)
 clear HE;have hq:=((((((((((Kb.refl (w.heap.size+3) x3).setCell ⟨w.heap.size+1+1,8,none⟩ (Or.inl (show w.heap.size+1+1<w.heap.size+3 by omega)) (.slice p3 d l3)).setCell ⟨w.heap.size+1,0,none⟩ (Or.inl (show w.heap.size+1<w.heap.size+3 by omega)) (.string f.x)).setCell ⟨w.heap.size+1,1,none⟩ (Or.inl (show w.heap.size+1<w.heap.size+3 by omega)) (.int .i64 f.l)).setCell ⟨w.heap.size+1,2,none⟩ (Or.inl (show w.heap.size+1<w.heap.size+3 by omega)) (.int .i64 f.m)).setCell ⟨w.heap.size+1,3,none⟩ (Or.inl (show w.heap.size+1<w.heap.size+3 by omega)) (.bool f.r)).setCell ⟨w.heap.size+1,4,none⟩ (Or.inl (show w.heap.size+1<w.heap.size+3 by omega)) (.int .i64 f.g)).setCell ⟨w.heap.size+1,5,none⟩ (Or.inl (show w.heap.size+1<w.heap.size+3 by omega)) (.slice p0 u l0)).setCell ⟨w.heap.size+1,6,none⟩ (Or.inl (show w.heap.size+1<w.heap.size+3 by omega)) (.slice p1 c l1)).setCell ⟨w.heap.size+1,7,none⟩ (Or.inl (show w.heap.size+1<w.heap.size+3 by omega)) (.slice p2 n l2)).setCell ⟨w.heap.size+1,8,none⟩ (Or.inl (show w.heap.size+1<w.heap.size+3 by omega)) (.slice p3 d l3);have hk:=((((((((((KW).setCell ⟨w.heap.size+1+1,8,none⟩ (Or.inr (show w.heap.size<=w.heap.size+1+1 by omega)) (.slice p3 d l3)).setCell ⟨w.heap.size+1,0,none⟩ (Or.inr (show w.heap.size<=w.heap.size+1 by omega)) (.string f.x)).setCell ⟨w.heap.size+1,1,none⟩ (Or.inr (show w.heap.size<=w.heap.size+1 by omega)) (.int .i64 f.l)).setCell ⟨w.heap.size+1,2,none⟩ (Or.inr (show w.heap.size<=w.heap.size+1 by omega)) (.int .i64 f.m)).setCell ⟨w.heap.size+1,3,none⟩ (Or.inr (show w.heap.size<=w.heap.size+1 by omega)) (.bool f.r)).setCell ⟨w.heap.size+1,4,none⟩ (Or.inr (show w.heap.size<=w.heap.size+1 by omega)) (.int .i64 f.g)).setCell ⟨w.heap.size+1,5,none⟩ (Or.inr (show w.heap.size<=w.heap.size+1 by omega)) (.slice p0 u l0)).setCell ⟨w.heap.size+1,6,none⟩ (Or.inr (show w.heap.size<=w.heap.size+1 by omega)) (.slice p1 c l1)).setCell ⟨w.heap.size+1,7,none⟩ (Or.inr (show w.heap.size<=w.heap.size+1 by omega)) (.slice p2 n l2)).setCell ⟨w.heap.size+1,8,none⟩ (Or.inr (show w.heap.size<=w.heap.size+1 by omega)) (.slice p3 d l3);exact⟨_,_,_,_,rfl,(s0.keep hq).mono (by omega),(s1.keep hq).mono (by omega),(s2.keep hq).mono (by omega),(s3.keep hq).mono (by omega),hk⟩
