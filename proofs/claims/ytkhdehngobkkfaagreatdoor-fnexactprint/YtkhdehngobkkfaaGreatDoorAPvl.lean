import Derived.Test.YtkhdehngobkkfaaGreatDoorAPve
import Derived.Test.YtkhdehngobkkfaaGreatDoorAPtc
set_option maxRecDepth 100000
set_option maxHeartbeats 16000000
namespace Go.Proofs.YtkhdehngobkkfaaGreatDoor.Fo
open Go.ChangeShapes Go.WideShapes Go.ChangeAt Go.RowKit
set_option linter.unusedVariables false
set_option maxRecDepth 100000
variable {w W:World}{b n cf t i q B g cap:Nat}{f:Int}{cd:Addr}{F:Nat->Gv}{T:List UInt8}{fs:Value}{ad:Option Addr}{cur:Array Value}
def Mq(w:World)(b:Nat)(cd:Addr)(n cf:Nat)(F:Nat->Gv):Nat->Nat->Nat->List UInt8->Prop
 |0,t,i,T=>Qv w b cd n cf F t 94 i (T)
 |1,t,i,T=>Q1 w b cd n cf t 32 (.int .i64 i) (T)
 |2,t,i,T=>Q1 w b cd n cf t 58 (.int .i64 i) (T)
 |3,t,i,T=>Qv w b cd n cf F t 63 i (T)
 |4,t,i,T=>Qv w b cd n cf F t 61 i (T)
 |5,t,i,T=>Qv w b cd n cf F t 94 i (T)
 |_,_,_,_=>True
theorem Qv.congr{f:Nat}{U:List UInt8}(h:Qv w b cd n cf F t f i T)(e:T=U):Qv w b cd n cf F t f i U:=by rw[<-e];exact h
theorem cmj_1(ts:Nat->List UInt8):cmj ts 1=ts 0:=by simp[cmj]
theorem bhx_0(o:ByteArray)(ts:Nat->List UInt8)(h:q=0):bhx o ts q=[]:=if_pos h
theorem bhx_s(o:ByteArray)(ts:Nat->List UInt8)(h:0<q):bhx o ts q=byt o++cmj ts q:=if_neg (Nat.ne_of_gt h)
theorem bhx_1(o:ByteArray)(ts:Nat->List UInt8)(h:q=1):bhx o ts q=byt o++ts 0:=by subst h;rw[bhx_s o ts Nat.zero_lt_one,cmj_1]
structure Amq (F:Nat->Gv) (w:World) (n:Nat) (cd:Addr) (cf:Nat):Prop where
 A:Amb F w n cd cf
 gd:Gd w
 pw:Pw w
 tb:Fm.Tab w
 bo:w.rangeAt 4 0 bondA.toList
 pr:w.rangeAt 5 0 prefA.toList
 un:w.rangeAt 6 0 unitA.toList
 nm:∀i,i<n->(F i).a.k=26->nmp (F i).a.x
 fl:∀i,i<n->(F i).a.k=24->flp (F i).a.x
 op:∀i,i<n->((F i).a.k=28\/(F i).a.k=29->(F i).a.o=0)/\((F i).a.k=31->1<=(F i).a.o/\(F i).a.o<=18)
theorem frm_tok:∀m:Fin 8,tokU m.val=(if frmU m.val=23 then 2 else if frmU m.val=24 then 3 else if frmU m.val=25 then 4 else if frmU m.val=20 then 24 else if frmU m.val=21 then 29 else if frmU m.val=22 then 17 else if frmU m.val=27 then 49 else 1):=by decide+kernel
theorem spl_k:byt (spl 24)=[110,105,108]/\byt (spl 29)=[116,114,117,101]/\byt (spl 17)=[102,97,108,115,101]/\byt (spl 49)=[46,46,46]/\(spl 24).size<=100/\(spl 29).size<=100/\(spl 17).size<=100/\(spl 49).size<=100:=by decide+kernel
theorem Kz.pw(h:Pw w)(hs:12<=w.heap.size)(k:Kz w W):Pw W:=pw_blk h (k.block _ (by omega))
theorem Kz.tab(h:Fm.Tab w)(k:Kz w W):Fm.Tab W:=⟨Nat.lt_of_lt_of_le h.lt k.size,(k.cell (p:=⟨_,15,none⟩) h.lt).trans h.at_⟩
theorem im_pln(A:Amq F w n cd cf)(hi:i<n)(hk:20<=(F i).a.k/\(F i).a.k<=27):∃R:ByteArray,byt R=plf inx (F i).a/\R.size<=1000000000/\∀vn vk W,Kz w W->Calls Tryz.prog 113 #[fmv (F i).a vn vk] W λe w2=>e=.returned (.string R)/\Rd.Kept W w2:=by
 have P:∀{R:ByteArray} (z:Int),(∀m:Fin 8,frmU m.val=(F i).a.k->tokU m.val=z)->(∀W,Kz w W->Calls Tryz.prog 121 #[.agg #[.int .i64 z,.int .i64 0,.int .i64 0,.int .i64 0,.int .i64 (F i).a.m,.string (F i).a.x]] W λe w'=>e=.returned (.string R)/\Rd.Kept W w')->∀vn vk W,Kz w W->Calls Tryz.prog 113 #[fmv (F i).a vn vk] W λe w2=>e=.returned (.string R)/\Rd.Kept W w2:=λ{R} z hz hT vn vk W hW=>by
  refine im_plain (F i).a vn vk R hk.1 hk.2 W (λj v hv=>(hW.cell (p:=⟨6,0+j,none⟩) (by have:=A.gd.size;show 6<_;omega)).trans (A.un j v hv)) (Nat.le_trans A.gd.size hW.size) (λm hm hf W2 hb=>?_);rw[hz ⟨m,hm⟩ hf];exact hT W2 (hW.trans (.of_below hb))
 have TK:∀{z:Int} {m:Fin 8},frmU m.val=(F i).a.k->_:=λ{z m} h=>frm_tok m;have hm:=A.A.m i hi;have hx:=A.A.x i hi;have hQ:∀z:Int,((F i).a.k=20/\z=24)\/((F i).a.k=21/\z=29)\/((F i).a.k=22/\z=17)\/((F i).a.k=27/\z=49)->∀W,Kz w W->Calls Tryz.prog 121 #[.agg #[.int .i64 z,.int .i64 0,.int .i64 0,.int .i64 0,.int .i64 (F i).a.m,.string (F i).a.x]] W λe w'=>e=.returned (.string (spl z))/\Rd.Kept W w':=λz hz W hW=>sp_tx z (by omega) _ 0 0 0 _ W (hW.gd A.gd);obtain⟨s1,s2,s3,s4,s5,s6,s7,s8⟩:=spl_k;unfold plf;rcases(by omega:(F i).a.k=20\/(F i).a.k=21\/(F i).a.k=22\/(F i).a.k=23\/(F i).a.k=24\/(F i).a.k=25\/(F i).a.k=26\/(F i).a.k=27)with e|e|e|e|e|e|e|e
 ·exact⟨spl 24,by rw[if_pos e];exact s1,by omega,P 24 (λm h=>by rw[frm_tok,h,e];rfl) (hQ 24 (.inl ⟨e,rfl⟩))⟩
 ·exact⟨spl 29,by rw[if_neg (by omega),if_pos e];exact s2,by omega,P 29 (λm h=>by rw[frm_tok,h,e];rfl) (hQ 29 (.inr (.inl ⟨e,rfl⟩)))⟩
 ·exact⟨spl 17,by rw[if_neg (by omega),if_neg (by omega),if_pos e];exact s3,by omega,P 17 (λm h=>by rw[frm_tok,h,e];rfl) (hQ 17 (.inr (.inr (.inl ⟨e,rfl⟩))))⟩
 ·exact⟨inx (F i).a.m,by rw[if_neg (by omega),if_neg (by omega),if_neg (by omega),if_pos e],by have:=inx_ok (F i).a.m hm.1 hm.2;omega,P 2 (λm h=>by rw[frm_tok,h,e];rfl) (λW hW=>in_tx _ hm.1 hm.2 _ 0 0 0 W (λo=>Kz.pw A.pw A.gd.size (hW.alloc o)) (λo=>Kz.tab A.tb (hW.alloc o)))⟩
 ·exact⟨(F i).a.x,by rw[if_neg (by omega),if_neg (by omega),if_neg (by omega),if_neg (by omega),if_neg (by omega),if_neg (by omega)],by omega,P 3 (λm h=>by rw[frm_tok,h,e];rfl) (λW hW=>fl_tx _ (A.fl i hi e) 0 0 0 _ W (hW.gd A.gd))⟩
 ·exact⟨qt (F i).a.x,by rw[if_neg (by omega),if_neg (by omega),if_neg (by omega),if_neg (by omega),if_pos e],by have:=qt_size (F i).a.x;omega,P 4 (λm h=>by rw[frm_tok,h,e];rfl) (λW hW=>st_tx _ 0 0 0 _ W)⟩
 ·exact⟨(F i).a.x,by rw[if_neg (by omega),if_neg (by omega),if_neg (by omega),if_neg (by omega),if_neg (by omega),if_neg (by omega)],by omega,P 1 (λm h=>by rw[frm_tok,h,e];rfl) (λW hW=>nm_tx _ (A.nm i hi e) 0 0 0 _ W (hW.gd A.gd))⟩
 ·exact⟨spl 49,by rw[if_neg (by omega),if_neg (by omega),if_neg (by omega),if_neg (by omega),if_neg (by omega),if_pos e];exact s4,by omega,P 49 (λm h=>by rw[frm_tok,h,e];rfl) (hQ 49 (.inr (.inr (.inr ⟨e,rfl⟩))))⟩
theorem q_all(Z:Amq F w n cd cf){m:Nat}(h:Pr F inx m t i T):i<n->t+i<=6000->Mq w b cd n cf F m t i T:=by
 have A:=Z.A;have AM:∀{i},i<n->Am w n cf cd F i:=λ{i} hi=>⟨A.hf,hi,A.hn⟩
 have kE:∀i j,i<n->j<(F i).q->(F i).K j=((kn F i j:Nat):Int)/\kn F i j<i:=λi j hi hj=>by
  have:=A.kn i hi j hj;unfold kn;omega
 have CF:∀{i},i<n->n<=cf:=λ{i} hi=>by
  obtain⟨_,_,_,_,-,-,-,h⟩:=(AM hi).get;exact h
 have QE:∀{t i:Nat} {x:List UInt8},i<n->Qv w b cd n cf F t 94 i (x)->Qe w b cd n cf F t i x:=λ{t i x} hi h=>by
  obtain⟨_,_,_,_,h9,rn,rk,-⟩:=(AM hi).get;exact⟨hi,_,_,h9,h _ _ _ _ rn rk⟩
 have E0:∀{t i j:Nat} {x:List UInt8},i<n->j<(F i).q->(kn F i j<n->t+kn F i j<=6000->Mq w b cd n cf F 0 t (kn F i j) x)->t+i<=6000->Qe w b cd n cf F t (kn F i j) x:=λ{t i j x} hi hj ih ht=>by
  obtain⟨e,hlt⟩:=kE i j hi hj;exact QE (by omega) (ih (by omega) (by omega))
 have B0:∀{t i j:Nat} {x:List UInt8},i<n->j<(F i).q->(kn F i j<n->t+kn F i j<=6000->Mq w b cd n cf F 2 t (kn F i j) x)->t+i<=6000->Q1 w b cd n cf t 58 (.int .i64 ((F i).K j)) (x):=λ{t i j x} hi hj ih ht=>by
  obtain⟨e,hlt⟩:=kE i j hi hj;rw[e];exact ih (by omega) (by omega)
 have BA:∀{t i j:Nat} {x:List UInt8},i<n->j<(F i).q->(kn F i j<n->t+kn F i j<=6000->Mq w b cd n cf F 0 t (kn F i j) x)->t+i<=6000->Q1 w b cd n cf t 110 (.int .i64 ((F i).K j)) (bsk (F (kn F i j)).a.k x):=λ{t i j x} hi hj ih ht=>by
  rw[(kE i j hi hj).1];exact qb_base w b cd n cf F t (CF hi) A.hn (E0 hi hj ih ht)
 have OP:∀{t i j:Nat} {x:List UInt8},i<n->j<(F i).q->(kn F i j<n->t+kn F i j<=6000->Mq w b cd n cf F 0 t (kn F i j) x)->t+i<=6000->∀le:Int,le<=11->Cq w b (.slice (some cd) n cf) t 108 #[.pointer (some ⟨b,0,none⟩),.int .i64 ((F i).K j),.int .i64 le] (par x (pwf (F (kn F i j)).a) le):=λ{t i j x} hi hj ih ht le hle=>by
  obtain⟨e,hlt⟩:=kE i j hi hj;rw[e];exact qo_operand w b cd n cf F t (CF hi) A.hn (E0 hi hj ih ht) Z.bo Z.gd.size (Z.op _ (by omega)).1 (Z.op _ (by omega)).2 le hle
 have NP:∀{i:Nat},i<n->(F i).p<=200/\∀j,j<(F i).p->((F i).A j).size<=4000:=λ{i} hi=>⟨A.p i hi,A.nm i hi⟩
 have XL:∀{t i p:Nat} {c:Nat->Nat} {ts:Nat->List UInt8},i<n->p<=(F i).q->(∀j,j<p->c j<(F i).q)->(∀j,j<p->kn F i (c j)<n->t+kn F i (c j)<=6000->Mq w b cd n cf F 0 t (kn F i (c j)) (ts j))->t+i<=6000->QL w b cd n cf F t (λj=>(F i).K (c j)) p ts:=λ{t i p c ts} hi hp hc ih ht=>⟨CF hi,A.hn,by have:=A.q i hi;omega,λj hj=>⟨kn F i (c j),(kE i _ hi (hc j hj)).1,E0 hi (hc j hj) (ih j hj) ht⟩⟩
 have X1:∀{t i j p:Nat} {x:List UInt8},i<n->j<(F i).q->p=1->(kn F i j<n->t+kn F i j<=6000->Mq w b cd n cf F 0 t (kn F i j) x)->t+i<=6000->QL w b cd n cf F t (λk=>(F i).K (j+k)) p (λ_=>x):=λ{t i j p x} hi hj hp ih ht=>XL (c:=λk=>j+k) hi (by omega) (λk hk=>by omega) (λk hk=>by obtain rfl:k=0:=(by omega);exact ih) ht;have X0:∀{t i p:Nat} {x:List UInt8},i<n->0<(F i).q->p=1->(kn F i 0<n->t+kn F i 0<=6000->Mq w b cd n cf F 0 t (kn F i 0) x)->t+i<=6000->QL w b cd n cf F t (F i).K p (λ_=>x):=λ{t i p x} hi hj hp ih ht=>XL (c:=λk=>k) hi (by omega) (λk hk=>by omega) (λk hk=>by obtain rfl:k=0:=(by omega);exact ih) ht;have hgB:∀{i},i<n->Gd w/\w.rangeAt 4 0 bondA.toList/\12<=w.heap.size:=λ{i} hi=>⟨Z.gd,Z.bo,Z.gd.size⟩
 induction h with
 | @inf t i x y hk ho hq h0 h1 ih0 ih1=>
  intro hi ht;rcases hk with e|e|e
  ·exact qe_28 e (hgB hi) (Z.op i hi) hq (OP hi (by omega) ih0 ht) (OP hi (by omega) ih1 ht)
  ·exact qe_29 e (hgB hi) (Z.op i hi) hq (OP hi (by omega) ih0 ht) (OP hi (by omega) ih1 ht)
  ·exact qe_31 e (hgB hi) (Z.op i hi) hq (OP hi (by omega) ih0 ht) (OP hi (by omega) ih1 ht)
 | @un t i x hk ho hq h0 ih0=>
  intro hi ht;obtain⟨e,hlt⟩:=kE i 0 hi (by omega);exact qe_30 hk (qp_pre ⟨Z.gd,Z.pr,Z.gd.size⟩ ho hq (AM (by omega)) e (by have:=OP hi (show 0<(F i).q by omega) ih0 ht 11 (by decide);rw[e]at this;exact this))
 | @idx t i x y hk hq h0 h1 ih0 ih1=>
  intro hi ht;refine Qv.congr (qe_32 hk (show 1<=(F i).q by omega) (BA hi (by omega) ih0 ht) (qf_32 hk (show 1<=(F i).q by omega) (X1 hi (show 1<(F i).q by omega) (show(F i).q-1=1 by omega) ih1 ht))) ?_;rw[show(F i).q-1=1 by omega,cmj_1];simp only[List.append_assoc]
 | @fld t i x hk hq h0 ih0=>
  intro hi ht;exact qe_33 hk (show 1<=(F i).q by omega) (BA hi (by omega) ih0 ht) (qf_33 hk (A.x i hi))
 | @call t i x ts hk hq h0 h1 ih0 ih1=>
  intro hi ht;refine Qv.congr (qe_34 hk hq (BA hi (by omega) ih0 ht) (qf_34 hk hq (XL (c:=λj=>1+j) hi (by omega) (λj hj=>by omega) ih1 ht))) ?_;simp only[List.append_assoc]
 | @tab t i ts hk h ih=>
  intro hi ht;refine qe_35 hk ⟨CF hi,A.hn,by have:=A.q i hi;omega,λj hj=>?_⟩;obtain⟨e,hlt⟩:=kE i j hi hj;exact⟨kn F i j,e,QE (by omega) (ih j hj (by omega) (by omega))⟩
 | @fn t i x hk h ih=>
  intro hi ht;exact qe_36 hk (ih hi ht)
 | @one t i x hk hq h ih=>
  intro hi ht;refine Qv.congr (qe_37 hk (X0 hi (by omega) hq ih ht)) ?_;rw[hq,cmj_1]
 | @pln t i hk=>
  intro hi ht;obtain⟨R,h1,h2,h3⟩:=im_pln Z hi hk;exact Qv.congr (qe_pln hk h2 h3) h1
 | @itm t i x hk hq h ih=>
  intro hi ht;refine Qv.congr (qe_40 hk (X0 hi (by omega) hq ih ht)) ?_;rw[hq,cmj_1]
 | @pai t i x y hk hq h0 h1 ih0 ih1=>
  intro hi ht;refine Qv.congr (qe_41 hk hq (X0 hi (by omega) rfl ih0 ht) (X1 hi (show 1<(F i).q by omega) (show(F i).q-1=1 by omega) ih1 ht)) ?_;rw[show(F i).q-1=1 by omega,cmj_1,cmj_1]
 | @nam t i x hk hq h ih=>
  intro hi ht;refine Qv.congr (qe_42 hk (A.x i hi) (X0 hi (by omega) hq ih ht)) ?_;rw[bhx_1 _ _ hq];simp only[List.append_assoc];rfl
 | @blk t i x hk h ih=>
  intro hi ht;exact qs_1 (AM hi) hk (ih hi ht)
 | @let0 t i hk hq=>
  intro hi ht;refine Cq.congr (qs_2 (ts:=λ_=>[]) (AM hi) hk (NP hi) ⟨CF hi,A.hn,by omega,λj hj=>by omega⟩) ?_;rw[bhx_0 _ _ hq,List.append_nil]
 | @let1 t i ts hk hq h ih=>
  intro hi ht;refine Cq.congr (qs_2 (AM hi) hk (NP hi) (XL (c:=λj=>j) hi (Nat.le_refl _) (λj hj=>hj) ih ht)) ?_;rw[bhx_s _ _ hq];simp only[List.append_assoc];rfl
 | @cst t i x hk hp hq h ih=>
  intro hi ht;refine Cq.congr (qs_3 (AM hi) hk ⟨hp,A.nm i hi 0 (by omega)⟩ (X0 hi (by omega) hq ih ht)) ?_;rw[bhx_1 _ _ hq];simp only[List.append_assoc];rfl
 | @sfn t i x hk hp hq h ih=>
  intro hi ht;obtain⟨e,hlt⟩:=kE i 0 hi (by omega);exact qs_4 (AM hi) hk ⟨hp,A.nm i hi 0 (by omega)⟩ (AM (by omega)) e hq (ih (by omega) (by omega))
 | @set t i ts us hk hm h h1 ih ih1=>
  intro hi ht;refine Cq.congr (qs_5 (AM hi) hk (m:=(F i).a.m.toNat) ⟨by omega,by omega,by omega,A.q i hi⟩ (XL (c:=λj=>j) hi (by omega) (λj hj=>by omega) ih ht) (XL (c:=λj=>(F i).a.m.toNat+j) hi (by omega) (λj hj=>by omega) ih1 ht)) ?_;rw[bhx_s _ _ (by omega)];simp only[List.append_assoc];rfl
 | @sdo t i x hk hq h ih=>
  intro hi ht;refine Cq.congr (qs_6 (AM hi) hk (X0 hi (by omega) hq ih ht)) ?_;rw[hq,cmj_1]
 | @sif t i x hk h ih=>
  intro hi ht;exact qs_7 (AM hi) hk (ih hi ht)
 | @whi t i x y hk hq h0 h1 ih0 ih1=>
  intro hi ht;refine Cq.congr (qs_8 (AM hi) hk (qp_8 hk (m:=1) ⟨hq,by decide⟩ (X0 hi (by omega) rfl ih0 ht) (B0 hi (by omega) ih1 ht))) ?_;rw[cmj_1];rfl
 | @«for» t i ts y hk hp hq h0 h1 ih0 ih1=>
  intro hi ht;refine Cq.congr (qs_9 (AM hi) hk (qp_9 hk ⟨hp,A.nm i hi 0 (by omega)⟩ (m:=(F i).q-1) ⟨by omega,by omega⟩ (XL (c:=λj=>j) hi (by omega) (λj hj=>by omega) ih0 ht) (B0 hi (by omega) ih1 ht))) ?_;unfold nms;rw[hp,cmj_1];rfl
 | @eac t i x y hk hq h0 h1 ih0 ih1=>
  intro hi ht;refine Cq.congr (qs_10 (AM hi) hk (qp_10 hk (NP hi) (m:=1) ⟨hq,by decide⟩ (X0 hi (by omega) rfl ih0 ht) (B0 hi (by omega) ih1 ht))) ?_;rw[cmj_1];rfl
 | @brk t i hk=>
  intro hi ht;exact qs_11 (AM hi) hk
 | @nxt t i hk=>
  intro hi ht;exact qs_12 (AM hi) hk
 | @ret0 t i hk hq=>
  intro hi ht;refine Cq.congr (qs_13 (ts:=λ_=>[]) (AM hi) hk ⟨CF hi,A.hn,by omega,λj hj=>by omega⟩) ?_;rw[bhx_0 _ _ hq,List.append_nil]
 | @ret1 t i ts hk hq h ih=>
  intro hi ht;refine Cq.congr (qs_13 (AM hi) hk (XL (c:=λj=>j) hi (Nat.le_refl _) (λj hj=>hj) ih ht)) ?_;rw[bhx_s _ _ hq];simp only[List.append_assoc];rfl
 | @«try» t i x y hk hq h0 h1 ih0 ih1=>
  intro hi ht;exact qs_14 (AM hi) hk (NP hi) hq (B0 hi (by omega) ih0 ht) (B0 hi (by omega) ih1 ht)
 | @thr t i x hk hq h ih=>
  intro hi ht;refine Cq.congr (qs_15 (AM hi) hk (X0 hi (by omega) hq ih ht)) ?_;rw[bhx_1 _ _ hq];rfl
 | @dfr t i x hk hq h ih=>
  intro hi ht;refine Cq.congr (qs_16 (AM hi) hk (X0 hi (by omega) hq ih ht)) ?_;rw[bhx_1 _ _ hq];rfl
 | @if2 t i x y hk hq h0 h1 ih0 ih1=>
  intro hi ht;refine Qv.congr (qr_2 hq (X0 hi (by omega) rfl ih0 ht) (B0 hi (by omega) ih1 ht)) ?_;rw[cmj_1];rfl
 | @if3 t i x y z hk hq hz h0 h1 h2 ih0 ih1 ih2=>
  intro hi ht;obtain⟨e,hlt⟩:=kE i 2 hi (by omega);refine Qv.congr (qr_3 hq (X0 hi (by omega) rfl ih0 ht) (B0 hi (by omega) ih1 ht) (AM (show kn F i 2<n by omega)) e (show ¬_ by omega) (ih2 (by omega) (by omega))) ?_;rw[cmj_1];rfl
 | @elf t i x y z hk hq hz h0 h1 h2 ih0 ih1 ih2=>
  intro hi ht;obtain⟨e,hlt⟩:=kE i 2 hi (by omega);refine Qv.congr (qr_e hq (X0 hi (by omega) rfl ih0 ht) (B0 hi (by omega) ih1 ht) (AM (show kn F i 2<n by omega)) e hz (ih2 (by omega) (by omega))) ?_;rw[cmj_1];rfl
 | @b0 t i hk hq=>
  intro hi ht;exact ql_0 A.hf hi A.hn hq
 | @b1 t i ts hk hq h ih=>
  intro hi ht;refine ql_1 A.hf hi A.hn (by omega) hq (by have:=A.q i hi;omega) (λj hj=>?_);obtain⟨e,hlt⟩:=kE i j hi hj;exact⟨kn F i j,e,ih j hj (by omega) (by omega)⟩
 | @bdy t i x hk hq h ih=>
  intro hi ht;by_cases ho:(F i).a.o=1
  ·exact qd_1 Z.gd (NP hi) (show 0<(F i).q by omega) ho (B0 hi (by omega) ih ht)
  ·exact qd_0 (NP hi) (show 0<(F i).q by omega) (A.op i hi hk ho) (B0 hi (by omega) ih ht)
def ltx (ts:Nat->List UInt8):Nat->List UInt8
 |0=>[]
 |j+1=>ltx ts j++ts j++[10]
def Prt(F:Nat->Gv)(IT:Int->ByteArray)(n:Nat)(T:ByteArray):Prop:=
 (∃c f,Fl nmp flp F n c f/\c≠0/\T=⟨#[]⟩)\/(∃f ts,Fl nmp flp F n 0 f/\(∀j,j<(F (n-1)).q->Pr F IT 1 0 (kn F (n-1) j) (ts j)/\(ts j).length<=10000000*SZ F n (kn F (n-1) j))/\T=(if 65536<(ltx ts (F (n-1)).q).length then⟨#[]⟩else⟨(ltx ts (F (n-1)).q).toArray⟩))
theorem ltx_len (ts:Nat->List UInt8):∀q,(ltx ts q).length=q+sN (λj=>(ts j).length) q
 |0=>rfl
 |q+1=>by
  show(ltx ts q++ts q++[10]).length=q+1+(sN _ q+(ts q).length);rw[List.length_append,List.length_append,ltx_len ts q];simp only[List.length_cons,List.length_nil];omega
theorem ltx_mono(ts:Nat->List UInt8){p:Nat}(h:i<=p):(ltx ts i).length<=(ltx ts p).length:=by
 induction p with
 |zero=>
  obtain rfl:i=0:=by omega
  exact Nat.le_refl _
 |succ p ih=>
  by_cases e:i=p+1
  ·subst e;exact Nat.le_refl _
  ·have:=ih (by omega);show _<=(ltx ts p++ts p++[10]).length;rw[List.length_append,List.length_append];omega
theorem prt_ex{IT:Int->ByteArray}(w:World)(hr:∀i,i<n->Rg (F i).a)(hIT:ITok IT):∃T,Prt F IT n T:=by
 obtain⟨c,f,h⟩:=fl_ex2 F n;by_cases h0:c=0
 ·subst h0;have hs:=snd_of h;have h0n:=hs.n0;have hkd:=hs.nd (n-1) (by omega);have hsk:=hkd.2.2.2.2.2;rw[shk_1 hs.top]at hsk
  obtain⟨ts,hts⟩:=ts_of (q:=(F (n-1)).q) (P:=λj x=>Pr F IT 1 0 (kn F (n-1) j) x/\x.length<=10000000*SZ F n (kn F (n-1) j)) (λj hj=>by
   have hk:=hs.kids (n-1) (by omega) j hj;have e:((kn F (n-1) j:Nat):Int)=(F (n-1)).K j:=by unfold kn;omega
   have hn1:=hs.n1
   exact(pr_ex hs (nm_40 w) (fl_40 w) hIT (λi hi=>hr i hi (F i).a.m (by simp[its])) n (kn F (n-1) j) (by omega) (by omega) 0 (by omega)).e1 (hsk.1 j hj))
  exact⟨_,.inr ⟨f,ts,h,hts,rfl⟩⟩
 ·exact⟨_,.inl ⟨c,f,h,h0,rfl⟩⟩
theorem ltx_small{ts:Nat->List UInt8}(h:Fl nmp flp F n 0 f)(hts:∀j,j<(F (n-1)).q->(ts j).length<=10000000*SZ F n (kn F (n-1) j)):(ltx ts (F (n-1)).q).length<=100000000000:=by
 have hs:=snd_of h;have h0:=hs.n0;have h1:=hs.sum (show n-1<n by omega);have h2:=hs.n1;have h3:=ltx_len ts (F (n-1)).q;have h4:=sN_le (F (n-1)).q hts;have h5:=sN_lin (λj=>SZ F n (kn F (n-1) j)) 0 10000000 (F (n-1)).q;have h6:sN (λj=>10000000*SZ F n (kn F (n-1) j)) (F (n-1)).q=sN (λj=>0+10000000*SZ F n (kn F (n-1) j)) (F (n-1)).q:=by congr 1;funext j;omega
 have h7:SZ F n (n-1)<=n:=by
  have:=(szl_in hs.kids n (Nat.le_refl _) (n-1)).2;unfold SZ;omega
 have h8:=(hs.nd (n-1) (by omega)).2.2.2.1;omega
theorem amb_of(h:Fl nmp flp F n 0 f)(hf:RowF w (.slice (some cd) n cf) n F)(hr:∀i,i<n->Rg (F i).a):Amb F w n cd cf:=by
 have hs:=snd_of h;have hn1:=hs.n1;have L:=λi (hi:i<n)=>lk_of w (hr i hi) (hs.nd i hi) (by omega);refine⟨hf,hn1,λi hi j hj=>hs.kids i hi j hj,λi hi=>(L i hi).hq,λi hi=>(L i hi).hp,λi hi=>(L i hi).hx,λi hi j hj=>(L i hi).hA j hj,λi hi=>hr i hi (F i).a.m (by simp[its]),λi hi hk ho=>?_⟩;have hsk:=(hs.nd i hi).2.2.2.2.2;rw[shk_36 hk]at hsk;obtain⟨-,-,-,-,h1⟩:=hsk;omega
theorem us_none(W:World)(q:Option Addr):(Builtin.unsafeString_ #[69,3] 9 #[.pointer q,.int .i64 0]).run Tryz.prog W=.ok (.string .empty) W:=Lib.run_unsafeString_none W _ _ _ q
theorem bs_row{l:List UInt8}(h0:l≠ [])(hbk:W.heap[b]? =some (.cells #[fs,.int .i64 t,.pointer ad,(.slice (some ⟨g,0,none⟩) l.length cap)] 53 (0,0)))(hg:W.heap[g]? =some (.cells cur 5 (0,0)))(hB:B<=g)(hc:l.length<=cap)(hcm:cap<=maxLen)(hcs:cur.size=cap*1)(hcell:∀j x,l[j]? =some x->W.cell? ((⟨g,0,none⟩:Addr).add j)=some (.int .u8 x.toNat)):Calls Tryz.prog 17 #[.pointer (some ⟨b,2,none⟩)] W λe w'=>e=.returned (.string ⟨l.toArray⟩)/\Below B W w':=by
 have hl0:l.length≠0:=by simpa using h0
 have c1:W.drew.cell? ⟨b,3,none⟩=some (.slice (some ⟨g,0,none⟩) l.length cap):=cell_of (W:=W) hbk rfl
 have hSD:(Builtin.unsafeSliceData_ #[38] 69 #[.slice (some ⟨g,0,none⟩) l.length cap]).run Tryz.prog W.drew=.ok (.pointer (some ⟨g,0,none⟩)) W.drew:=
  Lib.run_unsafeSliceData_row _ _ _ _ _ _ (by omega)
 have hUS:(Builtin.unsafeString_ #[69,3] 9 #[.pointer (some ⟨g,0,none⟩),.int .i64 l.length]).run Tryz.prog W.drew=.ok (.string ⟨l.toArray⟩) (W.drew.freeze ⟨g,0,none⟩ l.length):=by
  refine Lib.run_unsafeString_row W.drew 69 3 9 5 Tryz.underlying69 (by kernel_rfl) g cur.size (by have hg':W.drew.heap[g]? =some (.cells cur 5 (0,0)):=hg;simp[World.shape?,hg']) l h0 (by omega) (by unfold maxLen at hcm;omega) ?_;exact hcell
 clear hbk hg hcell hcs hcm hc h0;go_enter Tryz.func17,Tryz.ntmps17;go_wp2
 go_region
 all_goals (go_wp2;go_ret;exact⟨rfl,Lib.below_freeze (Below.drew (Below.refl B W)) (p:=⟨g,0,none⟩) hB _⟩)
theorem bs_nil(hbk:W.heap[b]? =some (.cells #[fs,.int .i64 t,.pointer ad,(.slice none 0 0)] 53 (0,0))):Calls Tryz.prog 17 #[.pointer (some ⟨b,2,none⟩)] W λe w'=>e=.returned (.string ⟨#[]⟩)/\Below B W w':=by
 have hUS:=us_none;have c1:W.drew.cell? ⟨b,3,none⟩=some (.slice none 0 0):=cell_of (W:=W) hbk rfl;have hSD:(Builtin.unsafeSliceData_ #[38] 69 #[.slice none 0 0]).run Tryz.prog W.drew=.ok (.pointer none) W.drew:=rfl;clear hbk;go_enter Tryz.func17,Tryz.ntmps17;go_wp2
 go_region
 all_goals (go_wp2;go_ret;exact⟨rfl,Below.drew (Below.refl B W)⟩)
theorem bs_room(hc0:cap≠0)(hbk:W.heap[b]? =some (.cells #[fs,.int .i64 t,.pointer ad,(.slice (some ⟨g,0,none⟩) 0 cap)] 53 (0,0))):Calls Tryz.prog 17 #[.pointer (some ⟨b,2,none⟩)] W λe w'=>e=.returned (.string ⟨#[]⟩)/\Below B W w':=by
 have hUS:=us_none;have c1:W.drew.cell? ⟨b,3,none⟩=some (.slice (some ⟨g,0,none⟩) 0 cap):=cell_of (W:=W) hbk rfl
 have hSD:(Builtin.unsafeSliceData_ #[38] 69 #[.slice (some ⟨g,0,none⟩) 0 cap]).run Tryz.prog W.drew=.ok (.pointer (some ⟨g,0,none⟩)) W.drew:=
  Lib.run_unsafeSliceData_row _ _ _ _ _ _ hc0
 clear hbk hc0;go_enter Tryz.func17,Tryz.ntmps17;go_wp2
 go_region
 all_goals (go_wp2;go_ret;exact⟨rfl,Below.drew (Below.refl B W)⟩)
theorem bs_noroom(hBw:B<=W.heap.size)(hbk:W.heap[b]? =some (.cells #[fs,.int .i64 t,.pointer ad,(.slice (some ⟨g,0,none⟩) 0 0)] 53 (0,0)))(hg:W.heap[g]? =some (.cells cur 5 (0,0))):Calls Tryz.prog 17 #[.pointer (some ⟨b,2,none⟩)] W λe w'=>e=.returned (.string ⟨#[]⟩)/\Below B W w':=by
 have hUS:=us_none;have c0:W.cell? ⟨b,3,none⟩=some (.slice (some ⟨g,0,none⟩) 0 0):=cell_of hbk rfl;have c1:W.drew.cell? ⟨b,3,none⟩=some (.slice (some ⟨g,0,none⟩) 0 0):=c0
 have hSD:(Builtin.unsafeSliceData_ #[38] 69 #[.slice (some ⟨g,0,none⟩) 0 0]).run Tryz.prog W.drew=.ok (.pointer (some ⟨W.drew.heap.size,0,none⟩)) (W.drew.alloc (.view ⟨g,0,none⟩ 5)):=
  Lib.run_unsafeSliceData_zero W.drew _ _ 5 Tryz.underlying69 ⟨g,0,none⟩ 0 (5,cur.size) (by have hg':W.drew.heap[g]? =some (.cells cur 5 (0,0)):=hg;simp[World.shape?,hg'])
 have c2:(W.drew.alloc (.view ⟨g,0,none⟩ 5)).cell? ⟨b,3,none⟩=some (.slice (some ⟨g,0,none⟩) 0 0):=((bel1 W _).cell (p:=⟨b,3,none⟩) (lt_of_cell c0)).trans c0;have c3:(W.alloc (.view ⟨g,0,none⟩ 5)).drew.cell? ⟨b,3,none⟩=some (.slice (some ⟨g,0,none⟩) 0 0):=c2;clear hbk hg;go_enter Tryz.func17,Tryz.ntmps17;go_wp2
 go_region
 all_goals (go_wp2;go_ret;exact⟨rfl,(Below.drew (Below.refl B W)).alloc hBw _⟩)
theorem bd_string{m:List UInt8}(h:Wa w b fs t ad m W):
    Calls Tryz.prog 17 #[.pointer (some ⟨b,2,none⟩)] W λe w'=>e=.returned (.string ⟨m.toArray⟩)/\Kz w w':=by
  have key:Calls Tryz.prog 17 #[.pointer (some ⟨b,2,none⟩)] W λe w'=>e=.returned (.string ⟨m.toArray⟩)/\Below b W w':=by
    obtain⟨v,h1,h2⟩:=h.bx;have hlt:b<W.heap.size:=(Array.getElem?_eq_some_iff.1 h1).1;by_cases h0:m=[]
    · subst h0;rcases h2.2 with⟨rfl,_⟩|⟨g,cap,cur,rfl,hbg,hg,_,_,_,_⟩
      · exact bs_nil h1
      · by_cases hc0:cap=0
        · subst hc0;exact bs_noroom (Nat.le_of_lt hlt) h1 hg
        · exact bs_room hc0 h1
    · rcases h2.2 with⟨_,hz⟩|⟨g,cap,cur,rfl,hbg,hg,hnc,hcm,hcs,_⟩
      · exact absurd (List.length_eq_zero_iff.1 hz) h0
      · exact bs_row h0 h1 hg (by omega) hnc hcm hcs (fun j x hx => by
          have:=h2.cells (g:=g) rfl j (.int .u8 x.toNat) (by simp[Lib.byteCells,hx])
          exact this)
  refine key.mono ?_;rintro e w' ⟨rfl,hb⟩;have hB:=h.hb;exact⟨rfl,hb.os.trans h.bo.os,hb.output.trans h.bo.output,Nat.le_trans h.bo.size hb.size,λk hk=>(hb.block k (by omega)).trans (h.bo.block k hk)⟩
theorem lnq_ltx(ts:Nat->List UInt8)(p:Nat):lnq 0 ts p=ltx ts p:=by
 induction p with
 |zero=>rfl
 |succ p ih=>
  show lnq 0 ts p++(tbs 0++ts p++[10])=ltx ts p++ts p++[10];rw[ih,List.append_assoc,show tbs 0=[]from rfl]
  simp
structure Gp (w:World):Prop where
 gd:Gd w
 pw:Pw w
 tb:Fm.Tab w
 bo:w.rangeAt 4 0 bondA.toList
 pr:w.rangeAt 5 0 prefA.toList
 un:w.rangeAt 6 0 unitA.toList
theorem Gp.kz(h:Gp w)(k:Kz w W):Gp W:=by
 have hs:=h.gd.size;have R:∀{g:Nat} {l:List Value},g<12->w.rangeAt g 0 l->W.rangeAt g 0 l:=λ{g l} hg hr j v hv=>(k.cell (p:=⟨g,0+j,none⟩) (by show g<_;omega)).trans (hr j v hv);exact⟨k.gd h.gd,Kz.pw h.pw hs k,Kz.tab h.tb k,R (by decide) h.bo,R (by decide) h.pr,R (by decide) h.un⟩
theorem amq_of(h:Fl nmp flp F n 0 f)(hf:RowF w (.slice (some cd) n cf) n F)(hr:∀i,i<n->Rg (F i).a)(g:Gp w):Amq F w n cd cf:=by
 have hs:=snd_of h;refine⟨amb_of h hf hr,g.gd,g.pw,g.tb,g.bo,g.pr,g.un,λi hi hk=>?_,λi hi hk=>?_,λi hi=>⟨λhk=>?_,λhk=>?_⟩⟩<;>have hsk:=(hs.nd i hi).2.2.2.2.2
 ·rw[shk_26 hk]at hsk;exact hsk.2.2
 ·rw[shk_24 hk]at hsk;exact hsk.2.2
 ·rcases hk with hk|hk
  ·rw[shk_28 hk]at hsk;exact hsk.2.2.1.resolve_left (by decide)
  ·rw[shk_29 hk]at hsk;exact hsk.2.2.1.resolve_left (by decide)
 ·rw[shk_31 hk]at hsk;exact hsk.2.2.2
theorem im_print{v:Value}{T:ByteArray}(w:World)(hg:Gp w)(hf:RowF w v n F)(hn:n<=1048576)(hp:∀i,i<n->(F i).p<=1048576)(hq:∀i,i<n->(F i).q<=1048576)(hr:∀i,i<n->Rg (F i).a)(hP:Prt F inx n T):
  Calls Tryz.prog 7 #[.agg #[v]] w λe w'=>e=.returned (.string T)/\Kz w w':=by
 have HSO:Hid (∀o:Obj,Calls Tryz.prog 14 #[.agg #[v]] (w.alloc o) λe w'=>(∃c f,e=.returned (.bool (dc (c=0)))/\Fl nmp flp F n c f)/\Kz (w.alloc o) w'):=(λo=>im_sound (w.alloc o) ((Kz.of_below (bel1 w o)).gd hg.gd) (hf.kz (.of_below (bel1 _ _))) hn hp hq (λi hi=>hr i hi _ (by simp[its])):∀o:Obj,_)
 have HRF:Hid (RowF w v n F/\Prt F inx n T/\(∀i,i<n->Rg (F i).a)/\Gp w):=(⟨hf,hP,hr,hg⟩:_/\_/\_/\_)
 obtain⟨pf,cf,rfl,_⟩:=hf;clear hn hp hq hP hr hg;go_enter Tryz.func7,Tryz.ntmps7;go_wp2_with fail;refine((uh HSO) _).mono ?_;rintro e w1 ⟨⟨c,f,rfl,hfl⟩,k1⟩;have B1:Kz w w1:=(Kz.of_below (bel1 w _)).trans k1;have c1:w1.cell? ⟨w.heap.size,0,none⟩=some (.slice pf n cf):=(k1.cell (p:=⟨w.heap.size,0,none⟩) (by show w.heap.size<_;simp)).trans (cell_new1 w _ _);obtain⟨hf,hP,hr,hg⟩:=(uh HRF)
 have hlt1:w.heap.size<w1.heap.size:=lt_of_cell c1;clear HSO HRF k1;by_cases h0:c=0
 case neg=>
  rw[dc_f h0]
  have hPe:T=⟨#[]⟩:=by
   rcases hP with⟨_,_,_,_,e⟩|⟨f',ts,a',_⟩
   ·exact e
   ·exact absurd (Fl.uniq hfl a').1 h0
  subst hPe;have HB1:Hid (Kz w w1):=B1;clear hf hP hfl h0 c1 B1 hr hg hlt1;go_wp2_with fail;go_ret;exact⟨rfl,HB1⟩
 rw[dc_t h0];subst h0;obtain⟨hn0,hn3,htop,hnd,hsz⟩:=snd_of hfl
 obtain⟨f',ts,-,hts,hTe⟩:∃f ts,Fl nmp flp F n 0 f/\(∀j,j<(F (n-1)).q->Pr F inx 1 0 (kn F (n-1) j) (ts j)/\(ts j).length<=10000000*SZ F n (kn F (n-1) j))/\T=(if 65536<(ltx ts (F (n-1)).q).length then⟨#[]⟩else⟨(ltx ts (F (n-1)).q).toArray⟩):=by
  rcases hP with⟨c',f',a',b',_⟩|h
  ·exact absurd (Fl.uniq hfl a').1.symm b'
  ·exact h
 obtain⟨q,hqd⟩:∃q,q=(F (n-1)).q:=⟨_,rfl⟩
 have hq200:q<=200:=by rw[hqd];exact(hnd (n-1) (by omega)).2.2.2.1
 have hf0:RowF w1 (.slice pf n cf) n F:=hf.kz B1;obtain⟨_,_,e1,hf2⟩:=id hf0;obtain⟨rfl,-,rfl⟩:=(Value.slice.injEq _ _ _ _ _ _).mp e1;obtain⟨cd,rfl,hcc,hrc⟩:=hf2 (by omega);have HZ:=amq_of hfl hf0 hr (hg.kz B1);obtain⟨b,hb⟩:∃b,b=w1.heap.size:=⟨_,rfl⟩
 obtain⟨w4,hw4⟩:∃w4,w4=w1.alloc (.cells #[.slice (some cd) n cf,.int .i64 0,.pointer none,.slice none 0 0] 53):=⟨_,rfl⟩
 have hB4:w4.heap[b]? =some (.cells #[.slice (some cd) n cf,.int .i64 0,.pointer none,.slice none 0 0] 53 (0,0)):=by rw[hw4,hb];exact alloc_at w1 _ _
 have hW4:Wq w1 b (.slice (some cd) n cf) 0 [] w4:=⟨[],.inl ⟨hb,by rw[hw4];exact .of_below (bel1 w1 _),_,hB4,World.ownsRow_nil _ _ _ _⟩,.inl rfl⟩
 have c4:w4.cell? ⟨w.heap.size,0,none⟩=some (.slice (some cd) n cf):=by rw[hw4];exact((bel1 w1 _).cell (p:=⟨w.heap.size,0,none⟩) hlt1).trans c1
 obtain⟨vn,vk,hc9,hrn,hrk⟩:=hrc (n-1) (by omega);obtain⟨pn,cn,rfl,-⟩:=id hrn;obtain⟨pk,ck,rfl,-⟩:=id hrk
 have HLN:=qx_lines w1 b (.slice (some cd) n cf) 0 (by decide) hrk (by have:=hqd;omega) (ts:=ts) (λj hj=>by
  have hk:=HZ.A.kn (n-1) (by omega) j hj;have e:(F (n-1)).K j=((kn F (n-1) j:Nat):Int):=by unfold kn;omega
  have hlt:kn F (n-1) j<n:=by unfold kn;omega
  exact⟨kn F (n-1) j,e,q_all HZ (hts j hj).1 hlt (by omega)⟩) [] w4 hW4
 rw[<-hqd]at hrk hc9 hTe HLN;rw[lnq_ltx]at HLN;obtain⟨d0,d1,d2,d3,d4,d5,d6,d7,d8⟩:=hc9.kz hW4.bel;have HFIN:Hid (Kz w w1/\T=(if 65536<(ltx ts q).length then⟨#[]⟩else⟨(ltx ts q).toArray⟩)):=(⟨B1,hTe⟩:_/\_)
 have hnI:(n:Int)<=3000:=by omega
 have hn0I:(1:Int)<=(n:Int):=by omega
 have hccI:(n:Int)<=(cf:Int):=by omega
 have hn1:((n:Int)-1).toNat=n-1:=by omega
 have HD4:Hid (w1.alloc (.cells #[.slice (some cd) n cf,.int .i64 0,.pointer none,.slice none 0 0] 53)=w4/\w1.heap.size=b):=(⟨hw4.symm,hb.symm⟩:_/\_)
 clear hf hP hfl hts hTe hnd hsz htop HZ hf0 hf2 hrc hcc hc9 hrn hrk hB4 hW4 hw4 hb B1 hr hg hlt1 hqd hq200 d0 d1 d2 d3 d4 d5 d6 d7;have HD8:Hid (w4.cell? ⟨(cd.add ((n-1)*9)).block,(cd.add ((n-1)*9)).off+8,none⟩=some (.slice pk q ck)):=d8;have HC4:Hid (w4.cell? ⟨w.heap.size,0,none⟩=some (.slice (some cd) n cf)):=c4;clear d8 c4;go_upto_region 4 with fail
 try rw[(un HD4).1]
 try rw[(un HD4).2]
 clear HD4 c1;have d8:=un HD8;have c4:=un HC4;clear HD8 HC4;go_wp2_with fail;refine HLN.mono ?_;rintro e y1 ⟨rfl,hY,-⟩;clear HLN d8 c4;have HBE:=hY.bel;obtain⟨m,hW,hm⟩:=hY;have HL:=hW.len;have HT:Hid (∃ad,Wa w1 b (.slice (some cd) n cf) 0 ad m y1):=hW.elim (λh=>⟨_,h⟩) (λh=>⟨_,h⟩);have HM:Hid ((m=ltx ts q\/(65536<m.length/\65536<(ltx ts q).length))/\Kz w1 y1):=(⟨hm,HBE⟩:_/\_)
 clear hW hm HBE;go_wp2_with fail;refine HL.mono ?_;rintro e y2 ⟨rfl,hy⟩;rw[hy];clear HL hy;obtain⟨hm,k2⟩:=un HM;obtain⟨k1,hTe⟩:=un HFIN;by_cases hbig:65536<m.length
 ·have hbI:(65536:Int)<(m.length:Int):=by omega
  have h2:65536<(ltx ts q).length:=by
   rcases hm with h|h
   ·rw[<-h];exact hbig
   ·exact h.2
  rw[if_pos h2]at hTe;subst hTe;have HB1:Hid (Kz w y1):=k1.trans k2;clear hm h2 hbig HM HFIN HT k1 k2;go_wp2_with fail;go_ret;exact⟨rfl,HB1⟩
 ·have hbI:¬(65536:Int)<(m.length:Int):=by omega
  have h2:m=ltx ts q:=hm.resolve_right (λh=>hbig h.1);rw[<-h2,if_neg hbig]at hTe;have HTE:Hid (T=⟨m.toArray⟩/\Kz w w1):=(⟨hTe,k1⟩:_/\_)
  obtain⟨ad,hWa⟩:=un HT;have HS:=bd_string hWa;clear hm h2 hbig HM HFIN HT k1 k2 hTe hWa;go_wp2_with fail;refine HS.mono ?_;rintro e y3 ⟨rfl,k3⟩;have HK:Hid (Kz w y3):=(un HTE).2.trans k3;clear HS k3;go_wp2_with fail;go_ret;exact⟨by rw[show T=_ from(un HTE).1];rfl,HK⟩
end Go.Proofs.YtkhdehngobkkfaaGreatDoor.Fo
namespace Go.Proofs.YtkhdehngobkkfaaGreatDoor
open Go.ChangeShapes Go.WideShapes Go.ChangeAt Go.RowKit
set_option linter.unusedVariables false
variable {H:Type}{P:Program}{w W:World}{base fuel n:Nat}{sp:Nat->Bool}{held:Bool}{e ti t:TypeId}{k:IntKind}{fs:Array Field}{p:List MemPlace}{L:List Int}{rest:List (String × DataW Unit)}
theorem struct_ints{enc:TypeId×Value->H}{cs:List Value}{zs:List Int}
  (ht:P.underlying e=some (.struct fs)) (hf:∀i,i<fs.size->∃f,fs[i]? =some f/\f.type=ti/\f.offset=i) (hti:P.underlying ti=some (.int k)) (hc:P.cellsOf ti=1)
  (h:DataW.trod enc P w base sp held fuel e cs=some (.agg (zs.map λz=>.lit (.int k z)),p)):∀j,j<fs.size->cs[j]? =some (.int k (zs.getD j 0)):=by
 obtain⟨xs,n,rfl,hx,hl,hxl,hff⟩:=DataW.trod_struct ht h;have hx1:=congrArg Prod.fst hx;simp only[DataW.agg.injEq]at hx1;intro j hj;obtain⟨f,h1,h2,h3⟩:=hf j hj;have t:=hff j f h1;have hxj:xs[j]? =some (xs[j]'(by omega)):=List.getElem?_eq_getElem (by omega);rw[h2,h3,hc,hxj]at t;obtain⟨z,e1,e2,_⟩:=DataW.trod_int hti t
 have hc':cs[j]? =some (.int k z):=by
  have:=congrArg (·[0]?) e1
  simpa [List.getElem?_take,List.getElem?_drop]using this
 have h4:(zs.map λz=>(DataW.lit (.int k z):DataW H))[j]? =some (.lit (.int k z)):=by
  rw[hx1,List.getElem?_map,hxj,e2];rfl
 rw[List.getElem?_map,Option.map_eq_some_iff]at h4;obtain⟨z',h5,h6⟩:=h4;have h7:z'=z:=by simpa using h6
 rw[hc',List.getD,h5,h7];rfl
def tabD(k:IntKind)(L:List Int)(n m:Nat):List (DataW H):=(List.range n).map λi=>.agg (((L.drop (i*m)).take m).map λz=>.lit (.int k z))
theorem tab_ints{enc:TypeId×Value->H}{cs:List Value}
  (ht:P.underlying t=some (.array n e)) (he:P.underlying e=some (.struct fs)) (hf:∀i,i<fs.size->∃f,fs[i]? =some f/\f.type=ti/\f.offset=i) (hti:P.underlying ti=some (.int k)) (hc:P.cellsOf ti=1) (hce:P.cellsOf e=fs.size) (hct:P.cellsOf t=n*fs.size)
  (h:DataW.trod enc P w base sp held fuel t cs=some (.agg (tabD k L n fs.size),p)):∀i j,i<n->j<fs.size->cs[i*fs.size+j]? =some (.int k (L.getD (i*fs.size+j) 0)):=by
 cases fuel with
 |zero=>simp[DataW.trod]at h
 |succ fuel=>
  simp only[DataW.trod,ht,hce,hct]at h;split at h
  ·rename_i hl
   obtain⟨xs,hm,hx⟩:=Option.map_eq_some_iff.1 h
   have hxs:xs.map (·.1)=tabD (H:=H) k L n fs.size:=by
    have:=congrArg Prod.fst hx
    simpa using this
   intro i j hi hj;obtain⟨b,hb,hff⟩:=Lib.mapM_at hm i i (by simp[hi]);have h2:(xs.map (·.1))[i]? =some b.1:=by simp[hb]
   rw[hxs]at h2;unfold tabD at h2;simp only[List.getElem?_map,List.getElem?_range hi,Option.map_some,Option.some.injEq]at h2
   have hf2:DataW.trod enc P w base sp held fuel e ((cs.drop (i*fs.size)).take fs.size)=some (.agg (((L.drop (i*fs.size)).take fs.size).map λz=>.lit (.int k z)),b.2):=by
    rw[h2];exact hff
   have h3:=struct_ints he hf hti hc hf2 j hj;have h4:((cs.drop (i*fs.size)).take fs.size)[j]? =cs[i*fs.size+j]?:=by simp[List.getElem?_drop,hj]
   rw[<-h4,h3]
   congr 2
   simp[List.getD,List.getElem?_drop,hj]
  ·cases h
theorem tab_head{name:String}{g:Nat}
  (hg:P.globalNamed name=some g) (hty:(P.globals[g]?).map (·.type)=some t) (ht:P.underlying t=some (.array n e)) (he:P.underlying e=some (.struct fs)) (hf:∀i,i<fs.size->∃f,fs[i]? =some f/\f.type=ti/\f.offset=i) (hti:P.underlying ti=some (.int k)) (hc:P.cellsOf ti=1) (hce:P.cellsOf e=fs.size) (hct:P.cellsOf t=n*fs.size) (hL:L.length=n*fs.size) (hm:0<fs.size)
  (h:laidMet P ((name,.agg (tabD k L n fs.size))::rest) W):W.rangeAt g 0 (L.map λz=>.int k z):=by
 obtain⟨ps,⟨g',t',cs,fuel,p,q,hg',ht',hvar,hd,_,_⟩,_⟩:=h;obtain rfl:=Option.some.inj (hg.symm.trans hg');obtain rfl:=Option.some.inj (hty.symm.trans ht');intro j v hv;rw[List.getElem?_map,Option.map_eq_some_iff]at hv;obtain⟨z,hz,rfl⟩:=hv;have hj:=(List.getElem?_eq_some_iff.1 hz).1;have h1:=World.var?_cell hg hvar j;have e1:j / fs.size*fs.size+j%fs.size=j:=by rw[Nat.mul_comm];exact Nat.div_add_mod j fs.size
 have h2:=tab_ints ht he hf hti hc hce hct hd (j / fs.size) (j%fs.size) (Nat.div_lt_of_lt_mul (by rw[Nat.mul_comm];omega)) (Nat.mod_lt _ hm);rw[e1,List.getD,hz]at h2;rw[Nat.zero_add,h1]
 simpa using h2
def tlB:List Int:=[26,29,0,1,1,2,10,28,0,2,2,3,73,31,13,3,3,4,74,31,14,3,3,4,75,31,15,3,3,4,76,31,16,3,3,4,77,31,17,3,3,4,78,31,18,3,3,4,72,31,12,4,5,4,68,31,8,5,5,6,69,31,9,6,6,7,67,31,7,7,7,8,70,31,10,8,8,9,71,31,11,8,8,9,61,31,1,9,9,10,62,31,2,9,9,10,63,31,3,10,10,11,64,31,4,10,10,11,65,31,5,10,10,11,66,31,6,10,10,11]
theorem gtB:Tryz.prog.globalNamed "loop.example/heddle/impl.bonds" =some 4:=by kernel_rfl
theorem ttB:(Tryz.prog.globals[4]?).map (·.type)=some 160:=by kernel_rfl
theorem ctB:Tryz.prog.cellsOf 160=20*6:=by kernel_rfl
theorem ceB:Tryz.prog.cellsOf 147=6:=by kernel_rfl
theorem ldB:(Rows.laid_loop_example_heddle_impl_bonds:DataW Unit)=.agg (tabD .i64 tlB 20 6):=by rfl
theorem arB:Fo.bondA.toList=tlB.map (λz=>.int .i64 z):=by rfl
theorem laidB(h:laidMet Tryz.prog (("loop.example/heddle/impl.bonds",Rows.laid_loop_example_heddle_impl_bonds)::rest) W):W.rangeAt 4 0 Fo.bondA.toList:=by
 rw[ldB]at h;rw[arB];refine tab_head gtB ttB Tryz.underlying160 Tryz.underlying147 (λi hi=>?_) Tryz.underlying3 (by kernel_rfl) ceB ctB (by decide) (by decide) h;rcases(show i=0\/i=1\/i=2\/i=3\/i=4\/i=5 by have h:i<6:=hi;omega)with rfl|rfl|rfl|rfl|rfl|rfl
 ·exact⟨_,rfl,rfl,rfl⟩
 ·exact⟨_,rfl,rfl,rfl⟩
 ·exact⟨_,rfl,rfl,rfl⟩
 ·exact⟨_,rfl,rfl,rfl⟩
 ·exact⟨_,rfl,rfl,rfl⟩
 ·exact⟨_,rfl,rfl,rfl⟩
def tlP:List Int:=[25,21,62,19,50,22,69,20]
theorem gtP:Tryz.prog.globalNamed "loop.example/heddle/impl.prefixes" =some 5:=by kernel_rfl
theorem ttP:(Tryz.prog.globals[5]?).map (·.type)=some 162:=by kernel_rfl
theorem ctP:Tryz.prog.cellsOf 162=4*2:=by kernel_rfl
theorem ceP:Tryz.prog.cellsOf 161=2:=by kernel_rfl
theorem ldP:(Rows.laid_loop_example_heddle_impl_prefixes:DataW Unit)=.agg (tabD .i64 tlP 4 2):=by rfl
theorem arP:Fo.prefA.toList=tlP.map (λz=>.int .i64 z):=by rfl
theorem laidP(h:laidMet Tryz.prog (("loop.example/heddle/impl.prefixes",Rows.laid_loop_example_heddle_impl_prefixes)::rest) W):W.rangeAt 5 0 Fo.prefA.toList:=by
 rw[ldP]at h;rw[arP];refine tab_head gtP ttP Tryz.underlying162 Tryz.underlying161 (λi hi=>?_) Tryz.underlying3 (by kernel_rfl) ceP ctP (by decide) (by decide) h;rcases(show i=0\/i=1 by have h:i<2:=hi;omega)with rfl|rfl
 ·exact⟨_,rfl,rfl,rfl⟩
 ·exact⟨_,rfl,rfl,rfl⟩
def tlU:List Int:=[2,23,3,24,4,25,24,20,29,21,17,22,49,27,1,26]
theorem gtU:Tryz.prog.globalNamed "loop.example/heddle/impl.units" =some 6:=by kernel_rfl
theorem ttU:(Tryz.prog.globals[6]?).map (·.type)=some 164:=by kernel_rfl
theorem ctU:Tryz.prog.cellsOf 164=8*2:=by kernel_rfl
theorem ceU:Tryz.prog.cellsOf 163=2:=by kernel_rfl
theorem ldU:(Rows.laid_loop_example_heddle_impl_units:DataW Unit)=.agg (tabD .i64 tlU 8 2):=by rfl
theorem arU:Fo.unitA.toList=tlU.map (λz=>.int .i64 z):=by rfl
theorem laidU(h:laidMet Tryz.prog (("loop.example/heddle/impl.units",Rows.laid_loop_example_heddle_impl_units)::rest) W):W.rangeAt 6 0 Fo.unitA.toList:=by
 rw[ldU]at h;rw[arU];refine tab_head gtU ttU Tryz.underlying164 Tryz.underlying163 (λi hi=>?_) Tryz.underlying3 (by kernel_rfl) ceU ctU (by decide) (by decide) h;rcases(show i=0\/i=1 by have h:i<2:=hi;omega)with rfl|rfl
 ·exact⟨_,rfl,rfl,rfl⟩
 ·exact⟨_,rfl,rfl,rfl⟩
end Go.Proofs.YtkhdehngobkkfaaGreatDoor
namespace Go.Proofs.YtkhdehngobkkfaaGreatDoor.Fo
open Go.ChangeShapes Go.WideShapes Go.ChangeAt Go.RowKit
set_option linter.unusedVariables false
set_option maxRecDepth 100000
variable {v:Value}
theorem conv_zero(q:Option Addr)(c:Nat)(w:World):(convert 38 9 (.slice q 0 c)).run Tryz.prog w=.ok (.string ⟨#[]⟩) w:=by
 cases q with
 |some a=>exact run_convert_bytes_back w 38 9 5 a c [] Tryz.underlying38 Tryz.underlying5 Tryz.underlying9 (P:=Tryz.prog) (λj hj=>by simp at hj)
 |none=>
  rw[run_convert_bytes_string w 38 9 5 none 0 c Tryz.underlying38 Tryz.underlying5 Tryz.underlying9];rfl
theorem conv_own{W:World}{B:Nat}{l:List UInt8}(h1:W.ownsRow B 5 1 v l.length (Lib.byteCells l)):(convert 38 9 v).run Tryz.prog W=.ok (.string ⟨l.toArray⟩) W:=by
 by_cases hl:l=[]
 ·subst hl;obtain⟨p,c,rfl⟩:=own_sh h1;exact conv_zero p c W
 ·obtain⟨g,cap,rfl,_,_⟩:=World.ownsRow.form h1 (by cases l with|nil=>exact(hl rfl).elim|cons a b=>simp);refine run_convert_bytes_back W 38 9 5 _ cap l Tryz.underlying38 Tryz.underlying5 Tryz.underlying9 (λj hj=>?_);have:=h1.cells (g:=g) rfl j (.int .u8 (l[j].toNat:Int)) (by simp[Lib.byteCells,hj]);exact this
theorem sp_print{n:Nat}{F:Nat->Gv}{T:ByteArray}{IT:Int->ByteArray}(w:World)(hf:RowF w v n F)(hn:n<=1048576)(hp:∀i,i<n->(F i).p<=1048576)(hq:∀i,i<n->(F i).q<=1048576)(hr:∀i,i<n->Rg (F i).a)(hP:Prt F IT n T)
  (hK:Tks IT):
  Calls Tryz.prog 5 #[.agg #[v]] w λe w'=>e=.returned (.string T)/\Below w.heap.size w w':=by
 have HSO:Hid (∀o:Obj,Calls Tryz.prog 10 #[.agg #[v]] (w.alloc o) λe w'=>∃c f,e=.returned (.agg #[.int .i64 c,.int .i64 f])/\Fl nmp flp F n c f/\Below (w.alloc o).heap.size (w.alloc o) w'):=(λo=>sp_sheet nm_s fl_s (w.alloc o) (hf.below (bel1 _ _)) hn hp hq:∀o:Obj,_)
 have HRF:Hid (RowF w v n F/\Prt F IT n T/\∀i,i<n->Rg (F i).a):=(⟨hf,hP,hr⟩:_/\_/\_)
 have HAM:Hid (∀f W0 cd cf,Fl nmp flp F n 0 f->RowF W0 (.slice (some cd) n cf) n F->Amb F W0 n cd cf):=(λf W0 cd cf h1 h2=>amb_of h1 h2 hr:∀f W0 cd cf,_)
 obtain⟨pf,cf,rfl,_⟩:=hf;have HTK:Hid (Tks IT):=hK;clear hn hp hq hP hr hK;go_enter Tryz.func5,Tryz.ntmps5;go_wp2_with fail;refine((uh HSO) _).mono ?_;rintro e w1 ⟨c,f,rfl,hfl,b1⟩;have B1:Below w.heap.size w w1:=(bel1 w _).trans (b1.mono (by simp));have c1:w1.cell? ⟨w.heap.size,0,none⟩=some (.slice pf n cf):=(b1.cell (p:=⟨w.heap.size,0,none⟩) (by show w.heap.size<_;simp)).trans (cell_new1 w _ _);obtain⟨hf,hP,hr⟩:=(uh HRF)
 have hlt1:w.heap.size<w1.heap.size:=lt_of_cell c1;clear HSO HRF b1;by_cases h0:c=0
 case neg=>
  have h0':(c !=0)=true:=bne_iff_ne.2 h0
  have hPe:T=⟨#[]⟩:=by
   rcases hP with⟨_,_,_,_,e⟩|⟨f',ts,a',_⟩
   ·exact e
   ·exact absurd (Fl.uniq hfl a').1 h0
  subst hPe;have HB1:Hid (Below w.heap.size w w1):=B1;clear hf hP hfl h0 c1 B1 hr HAM;go_wp2_with fail;go_ret;exact⟨rfl,(uh HB1).alloc (uh HB1).size _⟩
 subst h0;have hs:=snd_of hfl;obtain⟨hn0,hn3,htop,hnd,hsz⟩:=hs
 obtain⟨f',ts,-,hts,hTe⟩:∃f ts,Fl nmp flp F n 0 f/\(∀j,j<(F (n-1)).q->Pr F IT 1 0 (kn F (n-1) j) (ts j)/\(ts j).length<=10000000*SZ F n (kn F (n-1) j))/\T=(if 65536<(ltx ts (F (n-1)).q).length then⟨#[]⟩else⟨(ltx ts (F (n-1)).q).toArray⟩):=by
  rcases hP with⟨c',f',a',b',_⟩|h
  ·exact absurd (Fl.uniq hfl a').1.symm b'
  ·exact h
 have hsm:=ltx_small hfl (λj hj=>(hts j hj).2);obtain⟨q,hqd⟩:∃q,q=(F (n-1)).q:=⟨_,rfl⟩
 have hq200:q<=200:=by rw[hqd];exact(hnd (n-1) (by omega)).2.2.2.1
 obtain⟨W0,hW0⟩:∃W0,W0=w1.alloc (.cells #[.int .i64 0,.int .i64 f] 35):=⟨_,rfl⟩
 have BW0:Below w.heap.size w W0:=by rw[hW0];exact B1.alloc (Nat.le_of_lt hlt1) _
 have hf0:RowF W0 (.slice pf n cf) n F:=hf.below BW0;obtain⟨_,_,e1,hf2⟩:=id hf0;obtain⟨rfl,-,rfl⟩:=(Value.slice.injEq _ _ _ _ _ _).mp e1;obtain⟨cd,rfl,hcc,hrc⟩:=hf2 (by omega);have HA:=(uh HAM) f W0 cd cf hfl hf0;obtain⟨b,hb⟩:∃b,b=W0.heap.size:=⟨_,rfl⟩
 obtain⟨w4,hw4⟩:∃w4,w4=W0.alloc (.cells #[.slice (some cd) n cf,.slice none 0 0,.int .i64 0] 40):=⟨_,rfl⟩
 have hB4:w4.heap[b]? =some (.cells #[.slice (some cd) n cf,.slice none 0 0,.int .i64 0] 40 (0,0)):=by rw[hw4,hb];exact alloc_at W0 _ _
 have hW4:Ws W0 b (.slice (some cd) n cf) 0 (ltx ts 0) w4:=⟨hb,by rw[hw4,hb];exact bel1 W0 _,_,hB4,World.ownsRow_nil _ _ _ _⟩
 have hbw:w.heap.size<b:=by rw[hb,hW0];simp;omega
 have c1':w4.cell? ⟨w.heap.size,0,none⟩=some (.slice (some cd) n cf):=by
  have h1:=(hW4.bo.cell (p:=⟨w.heap.size,0,none⟩) (show w.heap.size<b from hbw))
  rw[h1,hW0];exact((bel1 w1 _).cell (p:=⟨w.heap.size,0,none⟩) hlt1).trans c1
 have HST:Hid (∀j,j<q->∀V l,Ws W0 b (.slice (some cd) n cf) 0 l V->l.length+(ts j).length<=1000000000000->Calls Tryz.prog 11 #[.pointer (some ⟨b,0,none⟩),.int .i64 ((F (n-1)).K j)] V λe W'=>e=.returned (.tuple #[])/\Ws W0 b (.slice (some cd) n cf) 0 (l++ts j) W'/\Lib.OthersKept 5 (some b) V W'):=(λj hj V l hV hl=>by
  rw[hqd]at hj;have hk:=HA.kn (n-1) (by omega) j hj;have e:(F (n-1)).K j=((kn F (n-1) j:Nat):Int):=by unfold kn;omega
  have hlt:kn F (n-1) j<n:=by unfold kn;omega
  rw[e]
  exact mw_all HA (uh HTK) (hts j hj).1 hlt (by omega) l V hV hl:∀j,_)
 obtain⟨vn,vk,hc9,hrn,hrk⟩:=hrc (n-1) (by omega);obtain⟨pn,cn,rfl,-⟩:=id hrn;obtain⟨pk,ck,rfl,hrk2⟩:=id hrk;rw[<-hqd]at hrk hrk2 hc9 hTe hsm
 have HRK:Hid (∀V l',Ws W0 b (.slice (some cd) n cf) 0 l' V->∀j,j<q->∃a,pk=some a/\q<=ck/\V.cell? (a.add j)=some (.int .i64 ((F (n-1)).K j))):=(λV l' hV j hj=>by
  obtain⟨_,_,q1,q2⟩:=hrk.below hV.bel;obtain⟨rfl,-,rfl⟩:=(Value.slice.injEq _ _ _ _ _ _).mp q1;obtain⟨a,q3,q4,hcel⟩:=q2 (by omega)
  exact⟨a,q3,q4,hcel j hj⟩:∀V l',_)
 obtain⟨d0,d1,d2,d3,d4,d5,d6,d7,d8⟩:=hc9.below hW4.bel;have H4:Hid (Ws W0 b (.slice (some cd) n cf) 0 (ltx ts 0) w4):=hW4;have HFIN:Hid (Below w.heap.size w W0/\w.heap.size<b/\T=(if 65536<(ltx ts q).length then⟨#[]⟩else⟨(ltx ts q).toArray⟩)):=(⟨BW0,hbw,hTe⟩:_/\_)
 have hqI:(q:Int)<=200:=by omega
 have hnI:(n:Int)<=3000:=by omega
 have hn0I:(1:Int)<=(n:Int):=by omega
 have hccI:(n:Int)<=(cf:Int):=by omega
 have HSM:Hid ((ltx ts q).length<=100000000000):=hsm;have hn1:((n:Int)-1).toNat=n-1:=by omega
 have hWd0:w1.alloc (.cells #[.int .i64 0,.int .i64 f] 35)=W0:=hW0.symm;have hWd4:W0.alloc (.cells #[.slice (some cd) n cf,.slice none 0 0,.int .i64 0] 40)=w4:=hw4.symm;have hbd:W0.heap.size=b:=hb.symm;have c10:W0.cell? ⟨w.heap.size,0,none⟩=some (.slice (some cd) n cf):=by rw[hW0];exact((bel1 w1 _).cell (p:=⟨w.heap.size,0,none⟩) hlt1).trans c1
 have cf0:W0.cell? ⟨w1.heap.size,0,none⟩=some (.int .i64 0):=by rw[hW0];exact cell_of (alloc_at w1 _ _) rfl
 have HW0:Hid (W0=w1.alloc (.cells #[.int .i64 0,.int .i64 f] 35)):=hW0;clear HTK hf hP hfl hts hTe hsm hnd hsz htop HA HAM hf0 hf2 hrc hcc hc9 hrn hrk hrk2 hB4 hW4 hW0 hw4 hb BW0 B1 hr hbw hlt1 hqd hq200 d0 d1 d2 d3 d4 d5 d6 d7;clear HW0;have HD8:Hid (w4.cell? ⟨(cd.add ((n-1)*9)).block,(cd.add ((n-1)*9)).off+8,none⟩=some (.slice pk q ck)):=d8;have HC4:Hid (w4.cell? ⟨w.heap.size,0,none⟩=some (.slice (some cd) n cf)):=c1';have HD4:Hid (W0.alloc (.cells #[.slice (some cd) n cf,.slice none 0 0,.int .i64 0] 40)=w4/\W0.heap.size=b):=(⟨hWd4,hbd⟩:_/\_)
 clear d8 c1' hWd4 hbd;go_upto_region 2 with fail
 try rw[hWd0]
 clear hWd0 c1;go_upto_region 5 with fail
 try rw[(uh HD4).1]
 try rw[(uh HD4).2]
 clear HD4 cf0 c10;have d8:w4.cell? ⟨(cd.add ((n-1)*9)).block,(cd.add ((n-1)*9)).off+8,none⟩=some (.slice pk q ck):=HD8;have c4:w4.cell? ⟨w.heap.size,0,none⟩=some (.slice (some cd) n cf):=HC4;clear HD8 HC4;go_wp2_with fail;clear c4 d8
 go_loopw [25] (λs25 wr=>∃j:Nat,s25=.int .i64 j/\j<=q/\Hid (Ws W0 b (.slice (some cd) n cf) 0 (ltx ts j) wr)) (λs25 _=>q-(intOf s25).toNat)
 case atStart=>exact⟨0,rfl,Nat.zero_le _,H4⟩
 case round=>
  clear H4;obtain⟨j,rfl,hjq,HX⟩:=hrel;have hX:=(uh HX)
  by_cases hj:j<q
  ·have hjI:(j:Int)<(q:Int):=by omega
   obtain⟨ad,rfl,hck,kj⟩:=(uh HRK) wr _ hX j hj;have hm:=ltx_mono ts (show j+1<=q from hj)
   have hm2:(ltx ts (j+1)).length=(ltx ts j).length+(ts j).length+1:=by
    show(ltx ts j++ts j++[10]).length=_;rw[List.length_append,List.length_append];rfl
   have hm3:=(uh HSM)
   have HL:Hid ((ltx ts j).length+(ts j).length+1<=1000000000000):=by show _<=_;omega
   have HC:=(uh HST) j hj wr _ hX (by omega);clear hX HX hm hm2 hm3;go_wp2_with fail;refine HC.mono ?_;rintro e y1 ⟨rfl,hY,-⟩;have HC2:=say_one W0 b (.slice (some cd) n cf) 0 ⟨#[10]⟩ [10] rfl hY (by have:=(uh HL);rw[List.length_append];show _+1<=_;omega);clear HC hY kj HL;go_wp2_with fail;refine HC2.mono ?_;rintro e y2 ⟨rfl,hY,-⟩;have HN:Hid (Ws W0 b (.slice (some cd) n cf) 0 (ltx ts (j+1)) y2):=hY;clear HC2 hY;go_wp2_with fail;go_roundw
   case rel=>exact⟨j+1,by go_num,by omega,HN⟩
   case measure=>simp[intOf];omega
  ·obtain rfl:j=q:=by omega
   obtain⟨v,h1,h2⟩:=hX.bx;obtain⟨BW0,hbw,hTe⟩:=(uh HFIN)
   have hcv:=conv_own h2;have BW:Below w.heap.size w wr:=BW0.trans (hX.bo.mono (Nat.le_of_lt hbw));obtain⟨pv,cv,rfl⟩:=own_sh h2;have cb:wr.cell? ⟨b,1,none⟩=some (.slice pv (ltx ts j).length cv):=cell_of h1 rfl;obtain⟨LT,hLT⟩:∃LT,LT=ltx ts j:=⟨_,rfl⟩
   rw[<-hLT]at hcv cb hTe;have HB:Hid (Below w.heap.size w wr):=BW;by_cases hbig:65536<LT.length
   ·have hbI:(65536:Int)<(LT.length:Int):=by omega
    rw[if_pos hbig]at hTe;subst hTe;clear hX HX h1 h2 BW BW0 hcv hLT hbig hj HFIN HSM HST HRK;go_wp2_with fail;go_ret;exact⟨rfl,HB⟩
   ·have hbI:¬(65536:Int)<(LT.length:Int):=by omega
    rw[if_neg hbig]at hTe;have HTE:Hid (T=⟨LT.toArray⟩):=hTe;clear hX HX h1 h2 BW BW0 hLT hbig hj HFIN HSM HST HRK hTe;go_wp2_with fail;go_ret;exact⟨by rw[show T=_ from HTE];rfl,HB⟩
