import Derived.Test.YtkhdehngobkkfaaGreatDoorAPmd
set_option maxHeartbeats 8000000
namespace Go.Proofs.YtkhdehngobkkfaaGreatDoor.Fo
open Go.ChangeShapes Go.WideShapes Go.ChangeAt Go.RowKit
set_option linter.unusedVariables false
variable {F:Nat->Gv}{IT:Int->ByteArray}{n i t q:Nat}
abbrev Pwt(F:Nat->Gv) (IT:Int->ByteArray) (n m t i:Nat):Prop:=∃x,Pr F IT m t i x/\x.length<=10000000*SZ F n i
abbrev Pxt(F:Nat->Gv) (IT:Int->ByteArray) (n m t i:Nat):Prop:=∃x,Pr F IT m t i x/\x.length+100<=10000000*SZ F n i
structure PrE (F:Nat->Gv) (IT:Int->ByteArray) (n t i:Nat):Prop where
 e0:20<=(F i).a.k/\(F i).a.k<=37->Pwt F IT n 0 t i
 e5:40<=(F i).a.k/\(F i).a.k<=42->Pwt F IT n 5 t i
 e1:1<=(F i).a.k/\(F i).a.k<=16->Pwt F IT n 1 t i
 e2:(F i).a.k=1->Pwt F IT n 2 t i
 e3:(F i).a.k=7->Pxt F IT n 3 t i
 e4:(F i).a.k=36->Pxt F IT n 4 t i
structure Pc (nm fl:ByteArray->Prop) (F:Nat->Gv) (IT:Int->ByteArray) (n i t:Nat):Prop where
 h:Snd nm fl F n
 HN:∀x,nm x->x.size<=40
 HF:∀x,fl x->x.size<=40
 hi:i<n
 ht:t+i<=6000
 hE:∀j,j<(F i).q->∀t',t'<=t+1->PrE F IT n t' (kn F i j)
theorem Pc.op{nm fl:ByteArray->Prop}(c:Pc nm fl F IT n i t):Snd nm fl F n/\(∀x,nm x->x.size<=40)/\(∀x,fl x->x.size<=40)/\i<n/\t+i<=6000/\(∀j,j<(F i).q->∀t',t'<=t+1->PrE F IT n t' (kn F i j))/\(sN (λj=>SZ F n (kn F i j)) (F i).q+1=SZ F n i)/\(F i).q<=200/\shk nm fl F (F i).a (F i).p (F i).A (F i).q (F i).K:=by
 obtain⟨h,HN,HF,hi,ht,hE⟩:=c;obtain⟨-,-,-,hq2,-,hs⟩:=h.nd i hi;exact⟨h,HN,HF,hi,ht,hE,h.sum hi,hq2,hs⟩
theorem ts_of{P:Nat->List UInt8->Prop}(h:∀j,j<q->∃x,P j x):∃ts:Nat->List UInt8,∀j,j<q->P j (ts j):=
 ⟨λj=>if hj:j<q then Classical.choose (h j hj)else [],λj hj=>by
  show P j (if hj:j<q then _ else _);rw[dif_pos hj]
  exact Classical.choose_spec (h j hj)⟩
theorem list_len{C:Nat->Nat}{ts:Nat->List UInt8}(h:∀j,j<q->(ts j).length<=10000000*C j):(cmj ts q).length<=2*q+10000000*sN C q:=by
 have h1:=cmj_len ts q;have h2:=sN_le q h;have h3:=sN_lin C 0 10000000 q;have h4:sN (λj=>10000000*C j) q=sN (λj=>0+10000000*C j) q:=by congr 1;funext j;omega
 omega
theorem nms_len{nm:ByteArray->Prop}(HN:∀x,nm x->x.size<=40){f:Gv}{a b:Int}(h:nd nm f.p f.A a b)(hb:b<=200):(nms f).length<=8400:=by
 obtain⟨h1,h2,h3⟩:=h;have q1:=cmj_len (λj=>byt (f.A j)) f.p;have q2:=sN_le (C:=λj=>(byt (f.A j)).length) (D:=λj=>40+0*1) f.p (λj hj=>by have:=HN _ (h3 j hj);rw[byt_len];omega);have q3:=sN_lin (λ_=>1) 40 0 f.p;show(cmj _ _).length<=_;omega
theorem pe_28{nm fl:ByteArray->Prop}(c:Pc nm fl F IT n i t)(hk:(F i).a.k=28):Pwt F IT n 0 t i:=by
 obtain⟨h,HN,HF,hi,ht,hE,hS,hq2,hs⟩:=c.op;rw[shk_28 hk]at hs;obtain⟨hq,hex,-⟩:=hs;have hS2:SZ F n (kn F i 0)+SZ F n (kn F i 1)+1=SZ F n i:=by rw[hq]at hS;simpa [sN]using hS
 obtain⟨x,px,lx⟩:=(hE 0 (by omega) t (by omega)).e0 (hex 0 (by omega) (by omega));obtain⟨y,py,ly⟩:=(hE 1 (by omega) t (by omega)).e0 (hex 1 (by omega) (by omega));refine⟨_,.inf (.inl hk) (λq=>absurd q (by omega)) hq px py,?_⟩;have l1:=par_len x (pwf (F (kn F i 0)).a) (lpf (F i).a);have l2:=par_len y (pwf (F (kn F i 1)).a) (rpf (F i).a);have l3:=sgf_len (F i).a;simp only[List.length_append];omega
theorem pe_29{nm fl:ByteArray->Prop}(c:Pc nm fl F IT n i t)(hk:(F i).a.k=29):Pwt F IT n 0 t i:=by
 obtain⟨h,HN,HF,hi,ht,hE,hS,hq2,hs⟩:=c.op;rw[shk_29 hk]at hs;obtain⟨hq,hex,-⟩:=hs;have hS2:SZ F n (kn F i 0)+SZ F n (kn F i 1)+1=SZ F n i:=by rw[hq]at hS;simpa [sN]using hS
 obtain⟨x,px,lx⟩:=(hE 0 (by omega) t (by omega)).e0 (hex 0 (by omega) (by omega));obtain⟨y,py,ly⟩:=(hE 1 (by omega) t (by omega)).e0 (hex 1 (by omega) (by omega));refine⟨_,.inf (.inr (.inl hk)) (λq=>absurd q (by omega)) hq px py,?_⟩;have l1:=par_len x (pwf (F (kn F i 0)).a) (lpf (F i).a);have l2:=par_len y (pwf (F (kn F i 1)).a) (rpf (F i).a);have l3:=sgf_len (F i).a;simp only[List.length_append];omega
theorem pe_31{nm fl:ByteArray->Prop}(c:Pc nm fl F IT n i t)(hk:(F i).a.k=31):Pwt F IT n 0 t i:=by
 obtain⟨h,HN,HF,hi,ht,hE,hS,hq2,hs⟩:=c.op;rw[shk_31 hk]at hs;obtain⟨hq,hex,-,ho⟩:=hs;have hS2:SZ F n (kn F i 0)+SZ F n (kn F i 1)+1=SZ F n i:=by rw[hq]at hS;simpa [sN]using hS
 obtain⟨x,px,lx⟩:=(hE 0 (by omega) t (by omega)).e0 (hex 0 (by omega) (by omega));obtain⟨y,py,ly⟩:=(hE 1 (by omega) t (by omega)).e0 (hex 1 (by omega) (by omega));refine⟨_,.inf (.inr (.inr hk)) (λ_=>ho) hq px py,?_⟩;have l1:=par_len x (pwf (F (kn F i 0)).a) (lpf (F i).a);have l2:=par_len y (pwf (F (kn F i 1)).a) (rpf (F i).a);have l3:=sgf_len (F i).a;simp only[List.length_append];omega
theorem pe_30{nm fl:ByteArray->Prop}(c:Pc nm fl F IT n i t)(hk:(F i).a.k=30):Pwt F IT n 0 t i:=by
 obtain⟨h,HN,HF,hi,ht,hE,hS,hq2,hs⟩:=c.op;rw[shk_30 hk]at hs;obtain⟨hq,hex,-,ho⟩:=hs;have hS2:SZ F n (kn F i 0)+1=SZ F n i:=by rw[hq]at hS;simpa [sN]using hS
 obtain⟨x,px,lx⟩:=(hE 0 (by omega) t (by omega)).e0 (hex 0 (by omega) (by omega));refine⟨_,.un hk ho hq px,?_⟩;have l1:=par_len x (pwf (F (kn F i 0)).a) 11;have l2:=upf_len (F i).a.o (F (kn F i 0)).a;simp only[List.length_append];omega
theorem pe_32{nm fl:ByteArray->Prop}(c:Pc nm fl F IT n i t)(hk:(F i).a.k=32):Pwt F IT n 0 t i:=by
 obtain⟨h,HN,HF,hi,ht,hE,hS,hq2,hs⟩:=c.op;rw[shk_32 hk]at hs;obtain⟨hq,hex,-⟩:=hs;have hS2:SZ F n (kn F i 0)+SZ F n (kn F i 1)+1=SZ F n i:=by rw[hq]at hS;simpa [sN]using hS
 obtain⟨x,px,lx⟩:=(hE 0 (by omega) t (by omega)).e0 (hex 0 (by omega) (by omega));obtain⟨y,py,ly⟩:=(hE 1 (by omega) t (by omega)).e0 (hex 1 (by omega) (by omega));refine⟨_,.idx hk hq px py,?_⟩;have l1:=bsk_len x (F (kn F i 0)).a.k;simp only[List.length_append,List.length_cons,List.length_nil];omega
theorem pe_33{nm fl:ByteArray->Prop}(c:Pc nm fl F IT n i t)(hk:(F i).a.k=33):Pwt F IT n 0 t i:=by
 obtain⟨h,HN,HF,hi,ht,hE,hS,hq2,hs⟩:=c.op;rw[shk_33 hk]at hs;obtain⟨hq,hex,-,-,hnm⟩:=hs;have hS2:SZ F n (kn F i 0)+1=SZ F n i:=by rw[hq]at hS;simpa [sN]using hS
 obtain⟨x,px,lx⟩:=(hE 0 (by omega) t (by omega)).e0 (hex 0 (by omega) (by omega));refine⟨_,.fld hk hq px,?_⟩;have l1:=bsk_len x (F (kn F i 0)).a.k;have l2:=HN _ hnm;have l3:=byt_len (F i).a.x;simp only[List.length_append,List.length_cons];omega
theorem pe_34{nm fl:ByteArray->Prop}(c:Pc nm fl F IT n i t)(hk:(F i).a.k=34):Pwt F IT n 0 t i:=by
 obtain⟨h,HN,HF,hi,ht,hE,hS,hq2,hs⟩:=c.op;rw[shk_34 hk]at hs;obtain⟨hq,hex,-⟩:=hs;obtain⟨r,hr⟩:∃r,(F i).q=1+r:=⟨(F i).q-1,by omega⟩
 have hr2:(F i).q-1=r:=by omega
 rw[hr,sN_split]at hS;have hS1:sN (λj=>SZ F n (kn F i j)) 1=SZ F n (kn F i 0):=by simp[sN]
 obtain⟨x,px,lx⟩:=(hE 0 (by omega) t (by omega)).e0 (hex 0 (by omega) (by omega));obtain⟨ts,hts⟩:=ts_of (q:=(F i).q-1) (P:=λj x=>Pr F IT 0 t (kn F i (1+j)) x/\x.length<=10000000*SZ F n (kn F i (1+j))) (λj hj=>(hE (1+j) (by omega) t (by omega)).e0 (hex (1+j) (by omega) (by omega)));refine⟨_,.call hk hq px (λj hj=>(hts j hj).1),?_⟩;have l1:=bsk_len x (F (kn F i 0)).a.k;have l2:=list_len (C:=λj=>SZ F n (kn F i (1+j))) (ts:=ts) (q:=(F i).q-1) (λj hj=>(hts j hj).2);rw[hr2]at l2⊢;simp only[List.length_append,List.length_cons,List.length_nil];omega
theorem pe_35{nm fl:ByteArray->Prop}(c:Pc nm fl F IT n i t)(hk:(F i).a.k=35):Pwt F IT n 0 t i:=by
 obtain⟨h,HN,HF,hi,ht,hE,hS,hq2,hs⟩:=c.op;rw[shk_35 hk]at hs;obtain⟨hex,-⟩:=hs;obtain⟨ts,hts⟩:=ts_of (q:=(F i).q) (P:=λj x=>Pr F IT 5 t (kn F i j) x/\x.length<=10000000*SZ F n (kn F i j)) (λj hj=>(hE j hj t (by omega)).e5 (hex j hj));refine⟨_,.tab hk (λj hj=>(hts j hj).1),?_⟩;have l2:=list_len (C:=λj=>SZ F n (kn F i j)) (ts:=ts) (q:=(F i).q) (λj hj=>(hts j hj).2);simp only[List.length_append,List.length_cons,List.length_nil];omega
theorem pe_36b{nm fl:ByteArray->Prop}(c:Pc nm fl F IT n i t)(hk:(F i).a.k=36):Pxt F IT n 4 t i:=by
 obtain⟨h,HN,HF,hi,ht,hE,hS,hq2,hs⟩:=c.op;rw[shk_36 hk]at hs;obtain⟨hq,hkd,-,hnd,ho⟩:=hs;have hS2:SZ F n (kn F i 0)+1=SZ F n i:=by rw[hq]at hS;simpa [sN]using hS
 obtain⟨x,px,lx⟩:=(hE 0 (by omega) t (by omega)).e2 hkd;refine⟨_,.bdy hk hq px,?_⟩;have l1:=nms_len HN hnd (by omega)
 have l2:(prm (F i)).length<=8500:=by
  unfold prm;rw[List.length_append]
  have:(if(F i).a.o=1 then(if(F i).p=0 then([]:List UInt8)else [44,32])++[46,46,46]else []).length<=5:=by
   repeat' split
   all_goals simp
  omega
 simp only[List.length_append,List.length_cons,List.length_nil];omega
theorem pe_36{nm fl:ByteArray->Prop}(c:Pc nm fl F IT n i t)(hk:(F i).a.k=36):Pwt F IT n 0 t i:=by
 obtain⟨h,HN,HF,hi,ht,hE⟩:=id c;obtain⟨x,px,lx⟩:=pe_36b c hk;refine⟨_,.fn hk px,?_⟩;simp only[List.length_append,List.length_cons,List.length_nil];omega
theorem pe_37{nm fl:ByteArray->Prop}(c:Pc nm fl F IT n i t)(hk:(F i).a.k=37):Pwt F IT n 0 t i:=by
 obtain⟨h,HN,HF,hi,ht,hE,hS,hq2,hs⟩:=c.op;rw[shk_37 hk]at hs;obtain⟨hq,hkd,-⟩:=hs;have hS2:SZ F n (kn F i 0)+1=SZ F n i:=by rw[hq]at hS;simpa [sN]using hS
 obtain⟨x,px,lx⟩:=(hE 0 (by omega) t (by omega)).e0 ⟨by show 20<=kdk F (F i).K 0;omega,by show kdk F (F i).K 0<=37;omega⟩;refine⟨_,.one hk hq px,?_⟩;simp only[List.length_append,List.length_cons,List.length_nil];omega
theorem pe_pln{nm fl:ByteArray->Prop}(h:Snd nm fl F n)(HN:∀x,nm x->x.size<=40)(HF:∀x,fl x->x.size<=40)(hi:i<n)(HT:∀m:Int,-9223372036854775808<=m->m<=9223372036854775807->(IT m).size<=40)(hr:-9223372036854775808<=(F i).a.m/\(F i).a.m<=9223372036854775807)(hk:20<=(F i).a.k/\(F i).a.k<=27):Pwt F IT n 0 t i:=by
 have hS:=h.sum hi;obtain⟨-,-,-,hq2,-,hs⟩:=h.nd i hi;refine⟨_,.pln hk,?_⟩
 have hx:(F i).a.x.size<=4000\/(F i).a.k=23\/(F i).a.k<24\/(F i).a.k=27:=by
  rcases(by omega:(F i).a.k<24\/(F i).a.k=24\/(F i).a.k=25\/(F i).a.k=26\/(F i).a.k=27)with e|e|e|e|e
  ·exact .inr (.inr (.inl e))
  ·rw[shk_24 e]at hs;have:=HF _ hs.2.2;exact .inl (by omega)
  ·rw[shk_25 e]at hs;exact .inl hs.2.2
  ·rw[shk_26 e]at hs;have:=HN _ hs.2.2;exact .inl (by omega)
  ·exact .inr (.inr (.inr e))
 have l1:=HT _ hr.1 hr.2;have l2:=qt_size (F i).a.x;have l3:=byt_len (IT (F i).a.m);have l4:=byt_len (qt (F i).a.x);have l5:=byt_len (F i).a.x
 have:(plf IT (F i).a).length<=20000:=by
  unfold plf;split
  ·simp
  split
  ·simp
  split
  ·simp
  split
  ·omega
  split
  ·omega
  split
  ·simp
  ·omega
 omega
theorem pe_40{nm fl:ByteArray->Prop}(c:Pc nm fl F IT n i t)(hk:(F i).a.k=40):Pwt F IT n 5 t i:=by
 obtain⟨h,HN,HF,hi,ht,hE,hS,hq2,hs⟩:=c.op;rw[shk_40 hk]at hs;obtain⟨hq,hex,-⟩:=hs;have hS2:SZ F n (kn F i 0)+1=SZ F n i:=by rw[hq]at hS;simpa [sN]using hS
 obtain⟨x,px,lx⟩:=(hE 0 (by omega) t (by omega)).e0 (hex 0 (by omega) (by omega));exact⟨_,.itm hk hq px,by omega⟩
theorem pe_41{nm fl:ByteArray->Prop}(c:Pc nm fl F IT n i t)(hk:(F i).a.k=41):Pwt F IT n 5 t i:=by
 obtain⟨h,HN,HF,hi,ht,hE,hS,hq2,hs⟩:=c.op;rw[shk_41 hk]at hs;obtain⟨hq,hex,-⟩:=hs;have hS2:SZ F n (kn F i 0)+SZ F n (kn F i 1)+1=SZ F n i:=by rw[hq]at hS;simpa [sN]using hS
 obtain⟨x,px,lx⟩:=(hE 0 (by omega) t (by omega)).e0 (hex 0 (by omega) (by omega));obtain⟨y,py,ly⟩:=(hE 1 (by omega) t (by omega)).e0 (hex 1 (by omega) (by omega));refine⟨_,.pai hk hq px py,?_⟩;simp only[List.length_append,List.length_cons,List.length_nil];omega
theorem pe_42{nm fl:ByteArray->Prop}(c:Pc nm fl F IT n i t)(hk:(F i).a.k=42):Pwt F IT n 5 t i:=by
 obtain⟨h,HN,HF,hi,ht,hE,hS,hq2,hs⟩:=c.op;rw[shk_42 hk]at hs;obtain⟨hq,hex,-,hnm⟩:=hs;have hS2:SZ F n (kn F i 0)+1=SZ F n i:=by rw[hq]at hS;simpa [sN]using hS
 obtain⟨x,px,lx⟩:=(hE 0 (by omega) t (by omega)).e0 (hex 0 (by omega) (by omega));refine⟨_,.nam hk hq px,?_⟩;have l2:=HN _ hnm;have l3:=byt_len (F i).a.x;unfold eq3;simp only[List.length_append,List.length_cons,List.length_nil];omega
theorem pe_1b{nm fl:ByteArray->Prop}(c:Pc nm fl F IT n i t)(hk:(F i).a.k=1):Pwt F IT n 2 t i:=by
 obtain⟨h,HN,HF,hi,ht,hE,hS,hq2,hs⟩:=c.op;rw[shk_1 hk]at hs;obtain⟨hex,-⟩:=hs;rcases Nat.eq_zero_or_pos (F i).q with h0|h0
 ·refine⟨_,.b0 hk h0,?_⟩;simp only[List.length_cons,List.length_nil];omega
 obtain⟨ts,hts⟩:=ts_of (q:=(F i).q) (P:=λj x=>Pr F IT 1 (t+1) (kn F i j) x/\x.length<=10000000*SZ F n (kn F i j)) (λj hj=>(hE j hj (t+1) (by omega)).e1 (hex j hj));refine⟨_,.b1 hk h0 (λj hj=>(hts j hj).1),?_⟩;have l1:=lns_len (t+1) ts (F i).q;have l2:=sN_le (F i).q (λj hj=>(hts j hj).2);have l3:=sN_lin (λj=>SZ F n (kn F i j)) 0 10000000 (F i).q;have l4:sN (λj=>10000000*SZ F n (kn F i j)) (F i).q=sN (λj=>0+10000000*SZ F n (kn F i j)) (F i).q:=by congr 1;funext j;omega
 have l5:=tbs_len t;have l6:(t+1+1)*(F i).q<=6100*200:=Nat.mul_le_mul (by omega) hq2;simp only[List.length_append,List.length_cons,List.length_nil];omega
theorem pe_1{nm fl:ByteArray->Prop}(c:Pc nm fl F IT n i t)(hk:(F i).a.k=1):Pwt F IT n 1 t i:=by
 obtain⟨h,HN,HF,hi,ht,hE⟩:=id c;obtain⟨x,px,lx⟩:=pe_1b c hk;exact⟨_,.blk hk px,lx⟩
theorem pe_2{nm fl:ByteArray->Prop}(c:Pc nm fl F IT n i t)(hk:(F i).a.k=2):Pwt F IT n 1 t i:=by
 obtain⟨h,HN,HF,hi,ht,hE,hS,hq2,hs⟩:=c.op;rw[shk_2 hk]at hs;obtain⟨-,hnd,hex⟩:=hs;have l1:=nms_len HN hnd (by omega);rcases Nat.eq_zero_or_pos (F i).q with h0|h0
 ·refine⟨_,.let0 hk h0,?_⟩;simp only[List.length_append,List.length_cons,List.length_nil];omega
 obtain⟨ts,hts⟩:=ts_of (q:=(F i).q) (P:=λj x=>Pr F IT 0 t (kn F i j) x/\x.length<=10000000*SZ F n (kn F i j)) (λj hj=>(hE j (by omega) t (by omega)).e0 (hex j (by omega) (by omega)));refine⟨_,.let1 hk h0 (λj hj=>(hts j hj).1),?_⟩;have lts:=list_len (C:=λj=>SZ F n (kn F i j)) (ts:=ts) (q:=(F i).q) (λj hj=>(hts j hj).2);unfold eq3;simp only[List.length_append,List.length_cons,List.length_nil];omega
theorem pe_3{nm fl:ByteArray->Prop}(c:Pc nm fl F IT n i t)(hk:(F i).a.k=3):Pwt F IT n 1 t i:=by
 obtain⟨h,HN,HF,hi,ht,hE,hS,hq2,hs⟩:=c.op;rw[shk_3 hk]at hs;obtain⟨-,hnd,hq,hex⟩:=hs;have hS2:SZ F n (kn F i 0)+1=SZ F n i:=by rw[hq]at hS;simpa [sN]using hS
 obtain⟨x,px,lx⟩:=(hE 0 (by omega) t (by omega)).e0 (hex 0 (by omega) (by omega));have hp:(F i).p=1:=by have:=hnd.1;have:=hnd.2.1;omega
 refine⟨_,.cst hk hp hq px,?_⟩;have l2:=HN _ (hnd.2.2 0 (by omega));have l3:=byt_len ((F i).A 0);unfold eq3;simp only[List.length_append,List.length_cons,List.length_nil];omega
theorem pe_4{nm fl:ByteArray->Prop}(c:Pc nm fl F IT n i t)(hk:(F i).a.k=4):Pwt F IT n 1 t i:=by
 obtain⟨h,HN,HF,hi,ht,hE,hS,hq2,hs⟩:=c.op;rw[shk_4 hk]at hs;obtain⟨-,hnd,hq,hkd⟩:=hs;have hS2:SZ F n (kn F i 0)+1=SZ F n i:=by rw[hq]at hS;simpa [sN]using hS
 obtain⟨x,px,lx⟩:=(hE 0 (by omega) t (by omega)).e4 hkd;have hp:(F i).p=1:=by have:=hnd.1;have:=hnd.2.1;omega
 refine⟨_,.sfn hk hp hq px,?_⟩;have l2:=HN _ (hnd.2.2 0 (by omega));have l3:=byt_len ((F i).A 0);simp only[List.length_append,List.length_cons,List.length_nil];omega
theorem pe_5{nm fl:ByteArray->Prop}(c:Pc nm fl F IT n i t)(hk:(F i).a.k=5):Pwt F IT n 1 t i:=by
 obtain⟨h,HN,HF,hi,ht,hE,hS,hq2,hs⟩:=c.op;rw[shk_5 hk]at hs;obtain⟨-,hm1,hm2,hta,hex⟩:=hs;obtain⟨m,hm⟩:∃m,m=(F i).a.m.toNat:=⟨_,rfl⟩
 obtain⟨r,hr⟩:∃r,(F i).q=m+r:=⟨(F i).q-m,by omega⟩
 have hr2:(F i).q-m=r:=by omega
 rw[hr,sN_split]at hS;rw[<-hm]at hta hex;obtain⟨ts,hts⟩:=ts_of (q:=m) (P:=λj x=>Pr F IT 0 t (kn F i j) x/\x.length<=10000000*SZ F n (kn F i j)) (λj hj=>(hE j (by omega) t (by omega)).e0 ((show 20<=kdk F (F i).K j/\kdk F (F i).K j<=37 by have:=hta j hj;omega)));obtain⟨us,hus⟩:=ts_of (q:=(F i).q-m) (P:=λj x=>Pr F IT 0 t (kn F i (m+j)) x/\x.length<=10000000*SZ F n (kn F i (m+j))) (λj hj=>(hE (m+j) (by omega) t (by omega)).e0 (hex (m+j) (by omega) (by omega)));have hmm:∀j,j<(F i).a.m.toNat->Pr F IT 0 t (kn F i j) (ts j):=by rw[<-hm];exact λj hj=>(hts j hj).1
 have hmu:∀j,j<(F i).q-(F i).a.m.toNat->Pr F IT 0 t (kn F i ((F i).a.m.toNat+j)) (us j):=by rw[<-hm];exact λj hj=>(hus j hj).1
 refine⟨_,.set hk ⟨hm1,hm2⟩ hmm hmu,?_⟩;rw[<-hm];have lts:=list_len (C:=λj=>SZ F n (kn F i j)) (ts:=ts) (q:=m) (λj hj=>(hts j hj).2);have lus:=list_len (C:=λj=>SZ F n (kn F i (m+j))) (ts:=us) (q:=(F i).q-m) (λj hj=>(hus j hj).2);rw[hr2]at lus⊢;unfold eq3;simp only[List.length_append,List.length_cons,List.length_nil];omega
theorem pe_6{nm fl:ByteArray->Prop}(c:Pc nm fl F IT n i t)(hk:(F i).a.k=6):Pwt F IT n 1 t i:=by
 obtain⟨h,HN,HF,hi,ht,hE,hS,hq2,hs⟩:=c.op;rw[shk_6 hk]at hs;obtain⟨-,hq,hkd⟩:=hs;have hS2:SZ F n (kn F i 0)+1=SZ F n i:=by rw[hq]at hS;simpa [sN]using hS
 obtain⟨x,px,lx⟩:=(hE 0 (by omega) t (by omega)).e0 ⟨by show 20<=kdk F (F i).K 0;omega,by show kdk F (F i).K 0<=37;omega⟩;exact⟨_,.sdo hk hq px,by omega⟩
theorem pe_7b{nm fl:ByteArray->Prop}(c:Pc nm fl F IT n i t)(hk:(F i).a.k=7):Pxt F IT n 3 t i:=by
 obtain⟨h,HN,HF,hi,ht,hE,hS,hq2,hs⟩:=c.op;rw[shk_7 hk]at hs;obtain⟨-,hq,hex,hk1,hk2⟩:=hs;rcases hq with hq|hq
 ·have hS2:SZ F n (kn F i 0)+SZ F n (kn F i 1)+1=SZ F n i:=by rw[hq]at hS;simpa [sN]using hS
  obtain⟨x,px,lx⟩:=(hE 0 (by omega) t (by omega)).e0 (hex 0 (by omega) (by omega));obtain⟨y,py,ly⟩:=(hE 1 (by omega) t (by omega)).e2 hk1;refine⟨_,.if2 hk hq px py,?_⟩;unfold sp1;simp only[List.length_append,List.length_cons,List.length_nil];omega
 ·have hS2:SZ F n (kn F i 0)+SZ F n (kn F i 1)+SZ F n (kn F i 2)+1=SZ F n i:=by rw[hq]at hS;simpa [sN]using hS
  obtain⟨x,px,lx⟩:=(hE 0 (by omega) t (by omega)).e0 (hex 0 (by omega) (by omega));obtain⟨y,py,ly⟩:=(hE 1 (by omega) t (by omega)).e2 hk1;rcases hk2 with hk2|hk2|hk2
  ·omega
  ·obtain⟨z,pz,lz⟩:=(hE 2 (by omega) t (by omega)).e2 hk2;refine⟨_,.if3 hk hq hk2 px py pz,?_⟩;unfold sp1;simp only[List.length_append,List.length_cons,List.length_nil];omega
  ·obtain⟨z,pz,lz⟩:=(hE 2 (by omega) t (by omega)).e3 hk2;refine⟨_,.elf hk hq hk2 px py pz,?_⟩;unfold sp1;simp only[List.length_append,List.length_cons,List.length_nil];omega
theorem pe_7{nm fl:ByteArray->Prop}(c:Pc nm fl F IT n i t)(hk:(F i).a.k=7):Pwt F IT n 1 t i:=by
 obtain⟨h,HN,HF,hi,ht,hE⟩:=id c;obtain⟨x,px,lx⟩:=pe_7b c hk;refine⟨_,.sif hk px,?_⟩;simp only[List.length_append,List.length_cons,List.length_nil];omega
theorem pe_8{nm fl:ByteArray->Prop}(c:Pc nm fl F IT n i t)(hk:(F i).a.k=8):Pwt F IT n 1 t i:=by
 obtain⟨h,HN,HF,hi,ht,hE,hS,hq2,hs⟩:=c.op;rw[shk_8 hk]at hs;obtain⟨-,hq,hex,hkd⟩:=hs;have hS2:SZ F n (kn F i 0)+SZ F n (kn F i 1)+1=SZ F n i:=by rw[hq]at hS;simpa [sN]using hS
 obtain⟨x,px,lx⟩:=(hE 0 (by omega) t (by omega)).e0 (hex 0 (by omega) (by omega));obtain⟨y,py,ly⟩:=(hE 1 (by omega) t (by omega)).e2 hkd;refine⟨_,.whi hk hq px py,?_⟩;unfold sp1;simp only[List.length_append,List.length_cons,List.length_nil];omega
theorem pe_9{nm fl:ByteArray->Prop}(c:Pc nm fl F IT n i t)(hk:(F i).a.k=9):Pwt F IT n 1 t i:=by
 obtain⟨h,HN,HF,hi,ht,hE,hS,hq2,hs⟩:=c.op;rw[shk_9 hk]at hs;obtain⟨-,hnd,hq,hex,hkd⟩:=hs;have hp:(F i).p=1:=by have:=hnd.1;have:=hnd.2.1;omega
 have l1:=nms_len HN hnd (by omega);obtain⟨r,hr⟩:∃r,(F i).q=r+1:=⟨(F i).q-1,by omega⟩
 have hr2:(F i).q-1=r:=by omega
 have hS2:sN (λj=>SZ F n (kn F i j)) r+SZ F n (kn F i r)+1=SZ F n i:=by rw[hr]at hS;exact hS
 obtain⟨ts,hts⟩:=ts_of (q:=(F i).q-1) (P:=λj x=>Pr F IT 0 t (kn F i j) x/\x.length<=10000000*SZ F n (kn F i j)) (λj hj=>(hE j (by omega) t (by omega)).e0 (hex j (by omega) (by omega)));obtain⟨y,py,ly⟩:=(hE ((F i).q-1) (by omega) t (by omega)).e2 hkd;refine⟨_,.for hk hp hq (λj hj=>(hts j hj).1) py,?_⟩;have lts:=list_len (C:=λj=>SZ F n (kn F i j)) (ts:=ts) (q:=(F i).q-1) (λj hj=>(hts j hj).2);rw[hr2]at lts ly⊢;unfold eq3 sp1;simp only[List.length_append,List.length_cons,List.length_nil];omega
theorem pe_10{nm fl:ByteArray->Prop}(c:Pc nm fl F IT n i t)(hk:(F i).a.k=10):Pwt F IT n 1 t i:=by
 obtain⟨h,HN,HF,hi,ht,hE,hS,hq2,hs⟩:=c.op;rw[shk_10 hk]at hs;obtain⟨-,hnd,hq,hex,hkd⟩:=hs;have l1:=nms_len HN hnd (by omega);have hS2:SZ F n (kn F i 0)+SZ F n (kn F i 1)+1=SZ F n i:=by rw[hq]at hS;simpa [sN]using hS
 obtain⟨x,px,lx⟩:=(hE 0 (by omega) t (by omega)).e0 (hex 0 (by omega) (by omega));obtain⟨y,py,ly⟩:=(hE 1 (by omega) t (by omega)).e2 hkd;refine⟨_,.eac hk hq px py,?_⟩;unfold sp1;simp only[List.length_append,List.length_cons,List.length_nil];omega
theorem pe_11{nm fl:ByteArray->Prop}(c:Pc nm fl F IT n i t)(hk:(F i).a.k=11):Pwt F IT n 1 t i:=by
 obtain⟨h,HN,HF,hi,ht,hE⟩:=id c;have hS:=h.sum hi;refine⟨_,.brk hk,?_⟩;simp only[List.length_cons,List.length_nil];omega
theorem pe_12{nm fl:ByteArray->Prop}(c:Pc nm fl F IT n i t)(hk:(F i).a.k=12):Pwt F IT n 1 t i:=by
 obtain⟨h,HN,HF,hi,ht,hE⟩:=id c;have hS:=h.sum hi;refine⟨_,.nxt hk,?_⟩;simp only[List.length_cons,List.length_nil];omega
theorem pe_13{nm fl:ByteArray->Prop}(c:Pc nm fl F IT n i t)(hk:(F i).a.k=13):Pwt F IT n 1 t i:=by
 obtain⟨h,HN,HF,hi,ht,hE,hS,hq2,hs⟩:=c.op;rw[shk_13 hk]at hs;obtain⟨-,hex⟩:=hs;rcases Nat.eq_zero_or_pos (F i).q with h0|h0
 ·refine⟨_,.ret0 hk h0,?_⟩;simp only[List.length_cons,List.length_nil];omega
 obtain⟨ts,hts⟩:=ts_of (q:=(F i).q) (P:=λj x=>Pr F IT 0 t (kn F i j) x/\x.length<=10000000*SZ F n (kn F i j)) (λj hj=>(hE j (by omega) t (by omega)).e0 (hex j (by omega) (by omega)));refine⟨_,.ret1 hk h0 (λj hj=>(hts j hj).1),?_⟩;have lts:=list_len (C:=λj=>SZ F n (kn F i j)) (ts:=ts) (q:=(F i).q) (λj hj=>(hts j hj).2);unfold sp1;simp only[List.length_append,List.length_cons,List.length_nil];omega
theorem pe_14{nm fl:ByteArray->Prop}(c:Pc nm fl F IT n i t)(hk:(F i).a.k=14):Pwt F IT n 1 t i:=by
 obtain⟨h,HN,HF,hi,ht,hE,hS,hq2,hs⟩:=c.op;rw[shk_14 hk]at hs;obtain⟨-,hnd,hq,hk0,hk1⟩:=hs;have l1:=nms_len HN hnd (by omega);have hS2:SZ F n (kn F i 0)+SZ F n (kn F i 1)+1=SZ F n i:=by rw[hq]at hS;simpa [sN]using hS
 obtain⟨x,px,lx⟩:=(hE 0 (by omega) t (by omega)).e2 hk0;obtain⟨y,py,ly⟩:=(hE 1 (by omega) t (by omega)).e2 hk1;refine⟨_,.try hk hq px py,?_⟩;unfold sp1;simp only[List.length_append,List.length_cons,List.length_nil];omega
theorem pe_15{nm fl:ByteArray->Prop}(c:Pc nm fl F IT n i t)(hk:(F i).a.k=15):Pwt F IT n 1 t i:=by
 obtain⟨h,HN,HF,hi,ht,hE,hS,hq2,hs⟩:=c.op;rw[shk_15 hk]at hs;obtain⟨-,hq,hex⟩:=hs;have hS2:SZ F n (kn F i 0)+1=SZ F n i:=by rw[hq]at hS;simpa [sN]using hS
 obtain⟨x,px,lx⟩:=(hE 0 (by omega) t (by omega)).e0 (hex 0 (by omega) (by omega));refine⟨_,.thr hk hq px,?_⟩;simp only[List.length_append,List.length_cons,List.length_nil];omega
theorem pe_16{nm fl:ByteArray->Prop}(c:Pc nm fl F IT n i t)(hk:(F i).a.k=16):Pwt F IT n 1 t i:=by
 obtain⟨h,HN,HF,hi,ht,hE,hS,hq2,hs⟩:=c.op;rw[shk_16 hk]at hs;obtain⟨-,hq,hkd⟩:=hs;have hS2:SZ F n (kn F i 0)+1=SZ F n i:=by rw[hq]at hS;simpa [sN]using hS
 obtain⟨x,px,lx⟩:=(hE 0 (by omega) t (by omega)).e0 ⟨by show 20<=kdk F (F i).K 0;omega,by show kdk F (F i).K 0<=37;omega⟩;refine⟨_,.dfr hk hq px,?_⟩;simp only[List.length_append,List.length_cons,List.length_nil];omega
theorem pr_ex{nm fl:ByteArray->Prop}(h:Snd nm fl F n)(HN:∀x,nm x->x.size<=40)(HF:∀x,fl x->x.size<=40)(HT:∀m:Int,-9223372036854775808<=m->m<=9223372036854775807->(IT m).size<=40)(hr:∀i,i<n->-9223372036854775808<=(F i).a.m/\(F i).a.m<=9223372036854775807):∀b i,i<b->i<n->∀t,t+i<=6000->PrE F IT n t i:=by
 intro b
 induction b with
 |zero=>intro i hib;omega
 |succ b ih=>
  intro i hib hi t ht
  have hE:∀j,j<(F i).q->∀t',t'<=t+1->PrE F IT n t' (kn F i j):=λj hj t' ht'=>by
   have hk:=h.kids i hi j hj;have e:((kn F i j:Nat):Int)=(F i).K j:=by unfold kn;omega
   exact ih _ (by omega) (by omega) t' (by omega)
  refine⟨λhk=>?_,λhk=>?_,λhk=>?_,λhk=>?_,λhk=>?_,λhk=>?_⟩
  ·by_cases hp:(F i).a.k<=27
   ·exact pe_pln h HN HF hi HT (hr i hi) ⟨hk.1,hp⟩
   ·rcases(by omega:(F i).a.k=28\/(F i).a.k=29\/(F i).a.k=30\/(F i).a.k=31\/(F i).a.k=32\/(F i).a.k=33\/(F i).a.k=34\/(F i).a.k=35\/(F i).a.k=36\/(F i).a.k=37)with e|e|e|e|e|e|e|e|e|e
    ·exact pe_28 ⟨h,HN,HF,hi,ht,hE⟩ e
    ·exact pe_29 ⟨h,HN,HF,hi,ht,hE⟩ e
    ·exact pe_30 ⟨h,HN,HF,hi,ht,hE⟩ e
    ·exact pe_31 ⟨h,HN,HF,hi,ht,hE⟩ e
    ·exact pe_32 ⟨h,HN,HF,hi,ht,hE⟩ e
    ·exact pe_33 ⟨h,HN,HF,hi,ht,hE⟩ e
    ·exact pe_34 ⟨h,HN,HF,hi,ht,hE⟩ e
    ·exact pe_35 ⟨h,HN,HF,hi,ht,hE⟩ e
    ·exact pe_36 ⟨h,HN,HF,hi,ht,hE⟩ e
    ·exact pe_37 ⟨h,HN,HF,hi,ht,hE⟩ e
  ·rcases(by omega:(F i).a.k=40\/(F i).a.k=41\/(F i).a.k=42)with e|e|e
   ·exact pe_40 ⟨h,HN,HF,hi,ht,hE⟩ e
   ·exact pe_41 ⟨h,HN,HF,hi,ht,hE⟩ e
   ·exact pe_42 ⟨h,HN,HF,hi,ht,hE⟩ e
  ·rcases(by omega:(F i).a.k=1\/(F i).a.k=2\/(F i).a.k=3\/(F i).a.k=4\/(F i).a.k=5\/(F i).a.k=6\/(F i).a.k=7\/(F i).a.k=8\/(F i).a.k=9\/(F i).a.k=10\/(F i).a.k=11\/(F i).a.k=12\/(F i).a.k=13\/(F i).a.k=14\/(F i).a.k=15\/(F i).a.k=16)with e|e|e|e|e|e|e|e|e|e|e|e|e|e|e|e
   ·exact pe_1 ⟨h,HN,HF,hi,ht,hE⟩ e
   ·exact pe_2 ⟨h,HN,HF,hi,ht,hE⟩ e
   ·exact pe_3 ⟨h,HN,HF,hi,ht,hE⟩ e
   ·exact pe_4 ⟨h,HN,HF,hi,ht,hE⟩ e
   ·exact pe_5 ⟨h,HN,HF,hi,ht,hE⟩ e
   ·exact pe_6 ⟨h,HN,HF,hi,ht,hE⟩ e
   ·exact pe_7 ⟨h,HN,HF,hi,ht,hE⟩ e
   ·exact pe_8 ⟨h,HN,HF,hi,ht,hE⟩ e
   ·exact pe_9 ⟨h,HN,HF,hi,ht,hE⟩ e
   ·exact pe_10 ⟨h,HN,HF,hi,ht,hE⟩ e
   ·exact pe_11 ⟨h,HN,HF,hi,ht,hE⟩ e
   ·exact pe_12 ⟨h,HN,HF,hi,ht,hE⟩ e
   ·exact pe_13 ⟨h,HN,HF,hi,ht,hE⟩ e
   ·exact pe_14 ⟨h,HN,HF,hi,ht,hE⟩ e
   ·exact pe_15 ⟨h,HN,HF,hi,ht,hE⟩ e
   ·exact pe_16 ⟨h,HN,HF,hi,ht,hE⟩ e
  ·exact pe_1b ⟨h,HN,HF,hi,ht,hE⟩ hk
  ·exact pe_7b ⟨h,HN,HF,hi,ht,hE⟩ hk
  ·exact pe_36b ⟨h,HN,HF,hi,ht,hE⟩ hk
end Go.Proofs.YtkhdehngobkkfaaGreatDoor.Fo
namespace Go.Proofs.YtkhdehngobkkfaaGreatDoor.Fo
open Go.ChangeShapes Go.WideShapes Go.ChangeAt Go.RowKit
set_option linter.unusedVariables false
set_option maxRecDepth 100000
variable {a:Fv}{w:World}{b t n i cf:Nat}{T:List UInt8}{cd:Addr}{F:Nat->Gv}
theorem pf_28(h:a.k=28):rpf a=3/\pwf a=2/\lpf a=2:=by
 unfold rpf pwf lpf;rw[if_neg (by omega),if_pos h,if_neg (by omega),if_pos h,if_neg (by omega),if_pos h];exact⟨rfl,rfl,rfl⟩
theorem pf_29(h:a.k=29):rpf a=2/\pwf a=1/\lpf a=1:=by
 unfold rpf pwf lpf;rw[if_pos h,if_pos h,if_pos h];exact⟨rfl,rfl,rfl⟩
theorem pf_31(h:a.k=31):rpf a=r33 a.o/\pwf a=bpo a.o/\lpf a=(if a.o=12 then 5 else bpo a.o):=by
 unfold rpf pwf lpf r33;have n1:¬a.k=29:=by omega
 have n2:¬a.k=28:=by omega
 exact⟨by rw[if_neg n1,if_neg n2],by rw[if_neg n1,if_neg n2,if_pos h],by rw[if_neg n1,if_neg n2]⟩
theorem bpo_12{o:Int}(h:o=12):bpo o=4:=by
 subst h;rfl
theorem lp_yes(hk:a.k=28\/a.k=29\/a.k=31)(h:rpf a=pwf a):lpf a=pwf a+1:=by
 rcases hk with e|e|e
 ·obtain⟨h1,h2,h3⟩:=pf_28 e;omega
 ·obtain⟨h1,h2,h3⟩:=pf_29 e;omega
 ·obtain⟨h1,h2,h3⟩:=pf_31 e;by_cases e2:a.o=12
  ·have:=bpo_12 e2;rw[if_pos e2]at h3;omega
  ·unfold r33 at h1;rw[if_neg e2]at h1;omega
theorem lp_no(hk:a.k=28\/a.k=29\/a.k=31)(h:¬rpf a=pwf a):lpf a=pwf a:=by
 rcases hk with e|e|e
 ·obtain⟨h1,h2,h3⟩:=pf_28 e;omega
 ·obtain⟨h1,h2,h3⟩:=pf_29 e;omega
 ·obtain⟨h1,h2,h3⟩:=pf_31 e;by_cases e2:a.o=12
  ·have:=bpo_12 e2;unfold r33 at h1;rw[if_pos e2]at h1;omega
  ·rw[if_neg e2]at h3;omega
theorem pw_rg(a:Fv):1<=pwf a/\pwf a<=12:=by
 unfold pwf bpo
 repeat' split
 all_goals omega
def Mw(w:World)(b:Nat)(cd:Addr)(n cf:Nat)(F:Nat->Gv):Nat->Nat->Nat->List UInt8->Prop
 |0,t,i,T=>∀le:Int,W2 w b cd n cf t 25 (.int .i64 i) (.int .i64 le) (par T (pwf (F i).a) le)
 |1,t,i,T=>W1 w b cd n cf t 11 (.int .i64 i) (T)
 |2,t,i,T=>W1 w b cd n cf t 22 (.int .i64 i) (T)
 |3,t,i,T=>∀s:ByteArray,∀pn cn pk ck,RowV w (.slice pn (F i).p cn) (F i).p (λj=>.string ((F i).A j))->RowV w (.slice pk (F i).q ck) (F i).q (λj=>.int .i64 ((F i).K j))->Cw w b (.slice (some cd) n cf) t 27 #[.pointer (some ⟨b,0,none⟩),fmv (F i).a (.slice pn (F i).p cn) (.slice pk (F i).q ck),.string s] (byt s++T)
 |4,t,i,T=>W1 w b cd n cf t 26 (.int .i64 i) (T)
 |5,t,i,T=>Ent w b cd n cf t F i T
 |_,_,_,_=>True
theorem par_0(T:List UInt8)(a:Fv):par T (pwf a) 0=T:=by
 unfold par;rw[if_neg (by have:=pw_rg a;omega)]
theorem Cw.congr{fs:Value}{f:Nat}{args:Array Value}{U:List UInt8}(h:Cw w b fs t f args T)(e:T=U):Cw w b fs t f args U:=by rw[<-e];exact h
structure Amb (F:Nat->Gv) (w:World) (n:Nat) (cd:Addr) (cf:Nat):Prop where
 hf:RowF w (.slice (some cd) n cf) n F
 hn:n<=3000
 kn:∀i,i<n->∀j,j<(F i).q->0<=(F i).K j/\(F i).K j<(i:Int)
 q:∀i,i<n->(F i).q<=200
 p:∀i,i<n->(F i).p<=200
 x:∀i,i<n->(F i).a.x.size<=4000
 nm:∀i,i<n->∀j,j<(F i).p->((F i).A j).size<=4000
 m:∀i,i<n->-9223372036854775808<=(F i).a.m/\(F i).a.m<=9223372036854775807
 op:∀i,i<n->(F i).a.k=36->¬(F i).a.o=1->(F i).a.o=0
structure Tks (IT:Int->ByteArray):Prop where
 it:∀(v:Int) (W:World),-9223372036854775808<=v->v<=9223372036854775807->Calls Tryz.prog 80 #[.int .i64 v] W λe w'=>e=.returned (.string (IT v))/\Below W.heap.size W w'
 qu:∀(x:ByteArray) (W:World),x.size<=4000->Calls Tryz.prog 81 #[.string x] W λe w'=>e=.returned (.string (qt x))/\Below W.heap.size W w'
 sg:∀(o:Int) (W:World),1<=o->o<=18->Calls Tryz.prog 42 #[.int .i64 (60+o)] W λe w'=>e=.returned (.string (infixB (o.toNat-1)))/\Below W.heap.size W w'
theorem mk_le(A:Am w n cf cd F i)(ho:(F i).a.k=31->1<=(F i).a.o/\(F i).a.o<=18)(H:∀le:Int,¬pwf (F i).a<le->W2 w b cd n cf t 25 (.int .i64 i) (.int .i64 le) (T)):∀le:Int,W2 w b cd n cf t 25 (.int .i64 i) (.int .i64 le) (par T (pwf (F i).a) le):=by
 intro le;by_cases h:pwf (F i).a<le
 ·refine Cw.congr (mx_par ⟨A,ho,rfl⟩ h (H 0 (by have:=pw_rg (F i).a;omega))) ?_;unfold par;rw[if_pos h];rfl
 ·refine Cw.congr (H le h) ?_;unfold par;rw[if_neg h]
theorem mw_all{IT:Int->ByteArray}(A:Amb F w n cd cf)(K:Tks IT){m:Nat}(h:Pr F IT m t i T):i<n->t+i<=6000->Mw w b cd n cf F m t i T:=by
 have AM:∀{i},i<n->Am w n cf cd F i:=λ{i} hi=>⟨A.hf,hi,A.hn⟩
 have kE:∀i j,i<n->j<(F i).q->(F i).K j=((kn F i j:Nat):Int)/\kn F i j<i:=λi j hi hj=>by
  have:=A.kn i hi j hj;unfold kn;omega
 have EX:∀{t i j:Nat} {x:List UInt8},i<n->j<(F i).q->(kn F i j<n->t+kn F i j<=6000->Mw w b cd n cf F 0 t (kn F i j) x)->t+i<=6000->∀le:Int,W2 w b cd n cf t 25 (.int .i64 ((F i).K j)) (.int .i64 le) (par x (pwf (F (kn F i j)).a) le):=λ{t i j x} hi hj ih ht le=>by
  obtain⟨e,hlt⟩:=kE i j hi hj;rw[e];exact ih (by omega) (by omega) le
 have E0:∀{t i j:Nat} {x:List UInt8},i<n->j<(F i).q->(kn F i j<n->t+kn F i j<=6000->Mw w b cd n cf F 0 t (kn F i j) x)->t+i<=6000->W2 w b cd n cf t 25 (.int .i64 ((F i).K j)) (.int .i64 0) (x):=λ{t i j x} hi hj ih ht=>Cw.congr (EX hi hj ih ht 0) (par_0 _ _)
 have B0:∀{t i j:Nat} {x:List UInt8},i<n->j<(F i).q->(kn F i j<n->t+kn F i j<=6000->Mw w b cd n cf F 2 t (kn F i j) x)->t+i<=6000->W1 w b cd n cf t 22 (.int .i64 ((F i).K j)) (x):=λ{t i j x} hi hj ih ht=>by
  obtain⟨e,hlt⟩:=kE i j hi hj;rw[e];exact ih (by omega) (by omega)
 have BA:∀{t i j:Nat} {x:List UInt8},i<n->j<(F i).q->(kn F i j<n->t+kn F i j<=6000->Mw w b cd n cf F 0 t (kn F i j) x)->t+i<=6000->W1 w b cd n cf t 44 (.int .i64 ((F i).K j)) (bsk (F (kn F i j)).a.k x):=λ{t i j x} hi hj ih ht=>by
  obtain⟨e,hlt⟩:=kE i j hi hj;have he:W2 w b cd n cf t 25 (.int .i64 ((kn F i j:Nat):Int)) (.int .i64 0) (x):=Cw.congr (ih (by omega) (by omega) 0) (par_0 _ _);rw[e];unfold bsk;by_cases hb:(F (kn F i j)).a.k=26\/(F (kn F i j)).a.k=32\/(F (kn F i j)).a.k=33\/(F (kn F i j)).a.k=34\/(F (kn F i j)).a.k=37
  ·rw[if_pos hb];exact mb_yes (AM (by omega)) (decide_eq_true hb) he
  ·rw[if_neg hb];exact mb_no (AM (by omega)) (decide_eq_false hb) he
 have NP:∀{i:Nat},i<n->(F i).p<=200:=λ{i} hi=>A.p i hi;have XL:∀{t i p:Nat} {c:Nat->Nat} {ts:Nat->List UInt8},i<n->p<=(F i).q->(∀j,j<p->c j<(F i).q)->(∀j,j<p->kn F i (c j)<n->t+kn F i (c j)<=6000->Mw w b cd n cf F 0 t (kn F i (c j)) (ts j))->t+i<=6000->WL w b cd n cf t (λj=>(F i).K (c j)) p ts:=λ{t i p c ts} hi hp hc ih ht=>⟨by have:=A.q i hi;omega,λj hj=>E0 hi (hc j hj) (ih j hj) ht⟩
 have E31:∀{i:Nat} {m:Int},(F i).a.k=m->m≠31->(F i).a.k=31->1<=(F i).a.o/\(F i).a.o<=18:=λh1 h2 h3=>absurd (h1.symm.trans h3) h2
 induction h with
 | @inf t i x y hk ho hq h0 h1 ih0 ih1=>
  intro hi ht;refine mk_le (AM hi) ho (λle hle=>?_);have E:Xp w n cf cd F i (pwf (F i).a):=⟨AM hi,ho,rfl⟩
  have HI:∀(s:ByteArray),byt s=sgf (F i).a->∀pn cn pk ck,RowV w (.slice pn (F i).p cn) (F i).p (λj=>.string ((F i).A j))->RowV w (.slice pk (F i).q ck) (F i).q (λj=>.int .i64 ((F i).K j))->Cw w b (.slice (some cd) n cf) t 41 #[.pointer (some ⟨b,0,none⟩),fmv (F i).a (.slice pn (F i).p cn) (.slice pk (F i).q ck),.string s,.int .i64 (pwf (F i).a)] (par x (pwf (F (kn F i 0)).a) (lpf (F i).a)++sgf (F i).a++par y (pwf (F (kn F i 1)).a) (rpf (F i).a)):=λs hs pn cn pk ck hrn hrk=>by
   have hb:=pw_rg (F i).a;rw[<-hs];by_cases he:rpf (F i).a=pwf (F i).a
   ·rw[lp_yes hk he];exact mi_yes hk ho hq ⟨hb.2,hb.1,rfl⟩ (beq_iff_eq.2 he) (EX hi (by omega) ih0 ht _) (EX hi (by omega) ih1 ht _) pn cn pk ck hrn hrk
   ·rw[lp_no hk he];exact mi_no hk ho hq ⟨hb.2,hb.1,rfl⟩ (beq_eq_false_iff_ne.2 he) (EX hi (by omega) ih0 ht _) (EX hi (by omega) ih1 ht _) pn cn pk ck hrn hrk
  rcases hk with e|e|e
  ·exact mx_28 e E hle (HI _ (by unfold sgf;rw[if_pos e];rfl))
  ·exact mx_29 e E hle (HI _ (by unfold sgf;rw[if_neg (by omega),if_pos e];rfl))
  ·refine mx_31 e E hle (s:=infixB ((F i).a.o.toNat-1)) ?_ (λW=>K.sg _ W (ho e).1 (ho e).2) (HI _ ?_)
   ·have:=infix_two ((F i).a.o.toNat-1);have e2:=infix_list ((F i).a.o.toNat-1);have e3:=sz_len (infixB ((F i).a.o.toNat-1));rw[e2]at e3;show _<=_;omega
   ·unfold sgf;rw[if_neg (by omega),if_neg (by omega),byt_app,byt_app];show [32]++byt (infixB _)++[32]=_;unfold byt;rw[infix_list];rfl
 | @un t i x hk ho hq h0 ih0=>
  intro hi ht;refine mk_le (AM hi) (E31 hk (by decide)) (λle hle=>?_);refine mx_30 hk ⟨AM hi,E31 hk (by decide),rfl⟩ hle ?_;obtain⟨e,hlt⟩:=kE i 0 hi (by omega);have hx:=EX hi (show 0<(F i).q by omega) ih0 ht 11;unfold upf;rcases(by omega:(F i).a.o=21\/(F i).a.o=22\/(F i).a.o=20\/(F i).a.o=19)with o|o|o|o
  ·rw[if_pos o];exact mu_21 o hq hx
  ·rw[if_neg (by omega),if_pos o];exact mu_22 o hq hx
  ·rw[if_neg (by omega),if_neg (by omega),if_pos o];exact mu_20 o hq hx
  ·rw[if_neg (by omega),if_neg (by omega),if_neg (by omega)];rw[e]at hx;by_cases hn:(F (kn F i 0)).a.k=30/\(F (kn F i 0)).a.o=19
   ·rw[if_pos hn];exact mu_19b (AM (by omega)) o hq e hn hx
   ·rw[if_neg hn];exact mu_19a (AM (by omega)) o hq e hn hx
 | @idx t i x y hk hq h0 h1 ih0 ih1=>
  intro hi ht;exact mk_le (AM hi) (E31 hk (by decide)) (λle hle=>mx_32 hk ⟨AM hi,E31 hk (by decide),rfl⟩ hle hq (BA hi (by omega) ih0 ht) (E0 hi (by omega) ih1 ht))
 | @fld t i x hk hq h0 ih0=>
  intro hi ht;exact mk_le (AM hi) (E31 hk (by decide)) (λle hle=>mx_33 hk ⟨AM hi,E31 hk (by decide),rfl⟩ hle hq (A.x i hi) (BA hi (by omega) ih0 ht))
 | @call t i x ts hk hq h0 h1 ih0 ih1=>
  intro hi ht;exact mk_le (AM hi) (E31 hk (by decide)) (λle hle=>mx_34 hk ⟨AM hi,E31 hk (by decide),rfl⟩ hle hq (BA hi (by omega) ih0 ht) (XL (c:=λj=>1+j) hi (by omega) (λj hj=>by omega) ih1 ht))
 | @tab t i ts hk h ih=>
  intro hi ht;exact mk_le (AM hi) (E31 hk (by decide)) (λle hle=>mx_35 hk ⟨AM hi,E31 hk (by decide),rfl⟩ hle (mt_table (by have:=A.q i hi;show _<=_;omega) (λj hj=>⟨kn F i j,(kE i j hi hj).1,AM (by have:=(kE i j hi hj).2;omega),ih j hj (by have:=(kE i j hi hj).2;omega) (by have:=(kE i j hi hj).2;omega)⟩)))
 | @fn t i x hk h ih=>
  intro hi ht;exact mk_le (AM hi) (E31 hk (by decide)) (λle hle=>mx_36 hk ⟨AM hi,E31 hk (by decide),rfl⟩ hle (ih hi ht))
 | @one t i x hk hq h ih=>
  intro hi ht;exact mk_le (AM hi) (E31 hk (by decide)) (λle hle=>mx_37 hk ⟨AM hi,E31 hk (by decide),rfl⟩ hle hq (E0 hi (by omega) ih ht))
 | @pln t i hk=>
  intro hi ht;have h31:(F i).a.k=31->1<=(F i).a.o/\(F i).a.o<=18:=λe=>by omega
  refine mk_le (AM hi) h31 (λle hle=>mx_pln ⟨AM hi,h31,rfl⟩ hle hk ?_);unfold plf;rcases(by omega:(F i).a.k=20\/(F i).a.k=21\/(F i).a.k=22\/(F i).a.k=23\/(F i).a.k=24\/(F i).a.k=25\/(F i).a.k=26\/(F i).a.k=27)with e|e|e|e|e|e|e|e
  ·rw[if_pos e];exact ml_20 e
  ·rw[if_neg (by omega),if_pos e];exact ml_21 e
  ·rw[if_neg (by omega),if_neg (by omega),if_pos e];exact ml_22 e
  ·rw[if_neg (by omega),if_neg (by omega),if_neg (by omega),if_pos e];exact ml_23 e (λW=>K.it _ W (A.m i hi).1 (A.m i hi).2)
  ·rw[if_neg (by omega),if_neg (by omega),if_neg (by omega),if_neg (by omega),if_neg (by omega),if_neg (by omega)];exact ml_24 e
  ·rw[if_neg (by omega),if_neg (by omega),if_neg (by omega),if_neg (by omega),if_pos e];exact ml_25 e (λW=>K.qu _ W (A.x i hi))
  ·rw[if_neg (by omega),if_neg (by omega),if_neg (by omega),if_neg (by omega),if_neg (by omega),if_neg (by omega)];exact ml_26 e
  ·rw[if_neg (by omega),if_neg (by omega),if_neg (by omega),if_neg (by omega),if_neg (by omega),if_pos e];exact ml_27 e
 | @itm t i x hk hq h ih=>
  intro hi ht;exact .inl ⟨hk,hq,E0 hi (by omega) ih ht⟩
 | @pai t i x y hk hq h0 h1 ih0 ih1=>
  intro hi ht;exact .inr (.inl ⟨hk,hq,x,y,rfl,E0 hi (by omega) ih0 ht,E0 hi (by omega) ih1 ht⟩)
 | @nam t i x hk hq h ih=>
  intro hi ht;exact .inr (.inr ⟨hk,hq,A.x i hi,x,rfl,E0 hi (by omega) ih ht⟩)
 | @blk t i x hk h ih=>
  intro hi ht;exact mw_1 (AM hi) hk (ih hi ht)
 | @let0 t i hk hq=>
  intro hi ht;exact mw_2a (AM hi) hk (NP hi) hq
 | @let1 t i ts hk hq h ih=>
  intro hi ht;exact mw_2b (AM hi) hk (NP hi) hq (XL (c:=λj=>j) hi (Nat.le_refl _) (λj hj=>hj) ih ht)
 | @cst t i x hk hp hq h ih=>
  intro hi ht;exact mw_3 (AM hi) hk ⟨hp,A.nm i hi 0 (by omega)⟩ hq (E0 hi (by omega) ih ht)
 | @sfn t i x hk hp hq h ih=>
  intro hi ht;obtain⟨e,hlt⟩:=kE i 0 hi (by omega);exact mw_4 (AM hi) hk ⟨hp,A.nm i hi 0 (by omega)⟩ hq (by rw[e];exact ih (by omega) (by omega))
 | @set t i ts us hk hm h h1 ih ih1=>
  intro hi ht;exact mw_5 (AM hi) hk (m:=(F i).a.m.toNat) ⟨by omega,by omega,by omega⟩ (XL (c:=λj=>j) hi (by omega) (λj hj=>by omega) ih ht) (XL (c:=λj=>(F i).a.m.toNat+j) hi (by omega) (λj hj=>by omega) ih1 ht)
 | @sdo t i x hk hq h ih=>
  intro hi ht;exact mw_6 (AM hi) hk hq (E0 hi (by omega) ih ht)
 | @sif t i x hk h ih=>
  intro hi ht;exact mw_7 (AM hi) hk (ih hi ht _)
 | @whi t i x y hk hq h0 h1 ih0 ih1=>
  intro hi ht;exact mw_8 (AM hi) hk hq (E0 hi (by omega) ih0 ht) (B0 hi (by omega) ih1 ht)
 | @«for» t i ts y hk hp hq h0 h1 ih0 ih1=>
  intro hi ht;exact mw_9 (AM hi) hk (m:=(F i).q-1) (NP hi) (show(F i).q=((F i).q-1)+1 by omega) (XL (c:=λj=>j) hi (by omega) (λj hj=>by omega) ih0 ht) (B0 hi (by omega) ih1 ht)
 | @eac t i x y hk hq h0 h1 ih0 ih1=>
  intro hi ht;refine Cw.congr (mw_10 (ts:=λ_=>x) (m:=1) (AM hi) hk (NP hi) hq (XL (c:=λj=>j) hi (by omega) (λj hj=>by omega) (λj hj=>by obtain rfl:j=0:=(by omega);exact ih0) ht) (B0 hi (by omega) ih1 ht)) ?_;simp[cmj,sp1]
 | @brk t i hk=>
  intro hi ht;exact mw_11 (AM hi) hk
 | @nxt t i hk=>
  intro hi ht;exact mw_12 (AM hi) hk
 | @ret0 t i hk hq=>
  intro hi ht;exact mw_13a (AM hi) hk hq
 | @ret1 t i ts hk hq h ih=>
  intro hi ht;exact mw_13b (AM hi) hk hq (XL (c:=λj=>j) hi (Nat.le_refl _) (λj hj=>hj) ih ht)
 | @«try» t i x y hk hq h0 h1 ih0 ih1=>
  intro hi ht;exact mw_14 (AM hi) hk (NP hi) hq (B0 hi (by omega) ih0 ht) (B0 hi (by omega) ih1 ht)
 | @thr t i x hk hq h ih=>
  intro hi ht;exact mw_15 (AM hi) hk hq (E0 hi (by omega) ih ht)
 | @dfr t i x hk hq h ih=>
  intro hi ht;exact mw_16 (AM hi) hk hq (E0 hi (by omega) ih ht)
 | @if2 t i x y hk hq h0 h1 ih0 ih1=>
  intro hi ht s pn cn pk ck hrn hrk;exact Cw.congr (mr_2 hq (E0 hi (by omega) ih0 ht) (B0 hi (by omega) ih1 ht) pn cn pk ck hrn hrk) (by simp only[List.append_assoc,sp1])
 | @if3 t i x y z hk hq hz h0 h1 h2 ih0 ih1 ih2=>
  intro hi ht s pn cn pk ck hrn hrk;obtain⟨e,hlt⟩:=kE i 2 hi (by omega);exact Cw.congr (mr_3 hq (E0 hi (by omega) ih0 ht) (B0 hi (by omega) ih1 ht) (AM (show kn F i 2<n by omega)) e (show ¬_ by omega) (ih2 (by omega) (by omega)) pn cn pk ck hrn hrk) (by simp only[List.append_assoc,sp1])
 | @elf t i x y z hk hq hz h0 h1 h2 ih0 ih1 ih2=>
  intro hi ht s pn cn pk ck hrn hrk;obtain⟨e,hlt⟩:=kE i 2 hi (by omega);exact Cw.congr (mr_e hq (E0 hi (by omega) ih0 ht) (B0 hi (by omega) ih1 ht) (AM (show kn F i 2<n by omega)) e hz (ih2 (by omega) (by omega) _) pn cn pk ck hrn hrk) (by simp only[List.append_assoc,sp1];rfl)
 | @b0 t i hk hq=>intro hi ht;exact sl_0 A.hf hi A.hn hq
 | @b1 t i ts hk hq h ih=>
  intro hi ht;refine sl_1 A.hf hi A.hn (by omega) hq (by have:=A.q i hi;omega) (λj hj=>?_);obtain⟨e,hlt⟩:=kE i j hi hj;rw[e];exact ih j hj (by omega) (by omega)
 | @bdy t i x hk hq h ih=>
  intro hi ht;have hb:=B0 hi (show 0<(F i).q by omega) ih ht;unfold prm;by_cases ho:(F i).a.o=1
  ·rw[if_pos ho];by_cases hp:(F i).p=0
   ·rw[if_pos hp];exact Cw.congr (md_1 (AM hi) ho hp (NP hi) hq hb) (by simp only[List.append_assoc,List.nil_append])
   ·rw[if_neg hp];exact Cw.congr (md_2 (AM hi) ho (show 0<(F i).p by omega) (NP hi) hq hb) (by simp only[List.append_assoc])
  ·rw[if_neg ho];exact Cw.congr (md_0 (AM hi) (A.op i hi hk ho) (NP hi) hq hb) (by simp only[List.append_assoc,List.append_nil])
