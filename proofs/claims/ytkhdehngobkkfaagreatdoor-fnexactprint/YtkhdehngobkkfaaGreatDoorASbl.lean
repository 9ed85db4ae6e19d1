import Derived.Test.YtkhdehngobkkfaaGreatDoorASbk
import Derived.Test.YtkhdehngobkkfaaGreatDoorASdb
import Derived.Deep.RegionHeldLaw
set_option maxRecDepth 100000
set_option maxHeartbeats 4000000
namespace Go.Proofs.YtkhdehngobkkfaaGreatDoor
open Go.ChangeShapes Go.WideShapes Go.ChangeAt Go.RowKit
set_option linter.unusedVariables false
variable {k n f t:Int}{ok:Bool}{tn j:Nat}{w W W':World}{x:ByteArray}{L:List UInt8}{v:Value}
theorem impl_numx{B:Nat}{T:ByteArray}(L:List UInt8)(hT:T.data.toList=L){k:Nat}{l:Int}{st:Bool}(hlen:T.size<=65536)(hB:12<=B)(hx0:lk L k=48/\lk L (k+1)=120)(hr:Hx L k ok tn n)(kd:Int)(hkd:kd=if ok=true then 2 else 0)(w:World)(hg:Gd w)(h:Sb B T k l st w):
  Calls Tryz.prog 162 #[.pointer (some ⟨B,0,none⟩)] w (ImP B T kd tn n ⟨#[]⟩ l st w):=by
 have hs:T.size=L.length:=by rw[<-hT];simp
 have hk1:k+1<L.length:=lk_lt (by decide) hx0.2;have hBlt:B<w.heap.size:=h.lt;have hnB:w.heap.size≠B:=by omega
 have hz:=Mz.start h
 have hsee:=sees_run (l:=l) (st:=st) (B:=B) ⟨#[48,120]⟩ true (show k<=T.size by omega) (by
  rw[hT];refine(pre_two L k 48 120).2 ⟨?_,?_⟩
  ·rw[<-hx0.1];exact lk_at (by omega)
  ·rw[<-hx0.2];exact lk_at hk1) _ hz.1.2
 obtain⟨W0,hW0,HZ0⟩:∃W0,W0=w.alloc (.cells #[.int .i64 0,.int .i64 0,.int .i64 0,.int .i64 0,.int .i64 0,.string ⟨#[]⟩] 125)/\Hid (Mz B w.heap.size T k l st w W0):=⟨_,rfl,hz⟩
 rw[<-hW0]at hsee;have hgz:∀m,Gd (W0.drewN m):=λm=>hg.kb hB ((uh HZ0).drewN m).1.1
 have hhx:∀m,Calls Tryz.prog 168 #[.pointer (some ⟨B,0,none⟩)] (W0.drewN m) λe w'=>e=.returned (tokV kd 0 0 0 n ⟨#[]⟩)/\Mv B T (tn:Int) l st (W0.drewN m) w':=
  λm=>impl_hex L hT hlen (by omega) hB hr kd hkd (W0.drewN m) (hgz m) ((uh HZ0).drewN m).1.2
 clear hT hlen hB hx0 hr hkd hg h hz hgz;go_enter Tryz.func162,Tryz.ntmps162;go_wp2_with fail;rw[<-hW0];clear hW0;refine hsee.mono ?_;rintro e w1 ⟨rfl,m,hw1⟩;rw[hw1];have hh:=hhx m;have HZ1:Hid (Mz B w.heap.size T k l st w (W0.drewN m)):=(uh HZ0).drewN m;clear hsee HZ0 hw1 hhx;generalize W0.drewN m=W1 at*;go_wp2_with fail;refine hh.mono ?_;rintro e w2 ⟨rfl,m2⟩;have HZ2:=(uh HZ1).trans m2 hnB;have z3:=HZ2.2;obtain⟨g0,g1,g2,g3,g4,g5,v0,v1,v2,v3,v4,v5,e0,e1,e2,e3,e4,e5⟩:=z3.all;have HM4:Hid (Mv B T (tn:Int) l st w w2):=HZ2.1;clear z3 HZ2 hh m2 HZ1;unfold tokV;go_wp2_with fail;refine bodyPost_ret (by simp[results,Tryz.results162,go_sem,e0,e1,e2,e3,e4,e5];rfl) rfl ?_;exact⟨rfl,st6_mv HM4 (Nat.le_refl _) hnB _ _ _ _ _ _⟩
theorem Ts.size(h:Ts w k f t n x W):w.heap.size+1<W.heap.size:=by
 have:=h.rz;unfold Rz at this;exact(Array.getElem?_eq_some_iff.1 this).1
theorem Ts.below(h:Ts w k f t n x W)(hb:Below W.heap.size W W'):Ts w k f t n x W':=by
 have hs:=h.size;refine⟨h.bel.trans (hb.mono (by omega)),?_,?_⟩
 ·rw[hb.block _ (by omega)];exact h.tb
 ·unfold Rz;rw[hb.block _ hs];exact h.rz
theorem spec_numx(T:ByteArray)(L:List UInt8)(hT:T.data.toList=L)(hlen:L.length<=65536)(p:Nat)(hx0:lk L p=48/\lk L (p+1)=120)(hn:Hx L p ok tn n)(kd:Int)(hkd:kd=if ok=true then 2 else 0)(w:World):
  Calls Tryz.prog 115 #[.string T,tokV 0 p 0 0 0 ⟨#[]⟩] w (NumP w kd p tn n ⟨#[]⟩):=by
 have hs:T.size=L.length:=by rw[<-hT];simp
 have hp1:p+1<L.length:=lk_lt (by decide) hx0.2;obtain⟨M,hM,hLM⟩:∃M:Int,M<=65536/\(L.length:Int)<=M:=⟨L.length,by omega,Int.le_refl _⟩
 have hpM:(p:Int)+1<M:=by omega
 have hix0:=ix T L hT p _ (lk_at (by omega));rw[hx0.1]at hix0
 have hl1:∀W,Calls Tryz.prog 122 #[.string T,.int .i64 ((p:Int)+1)] W λe w'=>e=.returned (.int .u8 ((lk L (p+1)).toNat:Int))/\w'=W:=λW=>by
  have:=spec_look T L hT (p+1) W;rw[show((p+1:Nat):Int)=(p:Int)+1 by omega]at this;exact this
 rw[hx0.2]at hl1;have hst:=Ts.start w 2 p 0 0 ⟨#[]⟩;obtain⟨W,hWe,hts⟩:∃W,W=(w.alloc (.cells #[.int .i64 2,.int .i64 p,.int .i64 0,.int .i64 0,.int .i64 0,.string ⟨#[]⟩] 125)).alloc (.cells #[.int .i64 0,.int .i64 0,.int .i64 0,.int .i64 0,.int .i64 0,.string ⟨#[]⟩] 125)/\Ts w 2 p 0 0 ⟨#[]⟩ W:=⟨_,rfl,hst⟩
 have HTS:Hid (Ts w 2 p 0 0 ⟨#[]⟩ W):=hts;have hhx:=spec_hexed T L hT hlen p (by omega) hn kd hkd W;unfold tokV at hhx;have c1:=hts.c1;clear hT hlen hn hkd hst hts hx0;show Calls Tryz.prog 115 #[.string T,.agg #[.int .i64 0,.int .i64 p,.int .i64 0,.int .i64 0,.int .i64 0,.string ⟨#[]⟩]] w _;go_enter Tryz.func115,Tryz.ntmps115;go_upto_region 3 with fail;rw[<-hWe];clear hWe;go_wp2_with fail;refine(hl1 _).mono ?_;rintro e w1 ⟨rfl,hw1⟩;rw[hw1];clear hw1 hl1 hix0;go_upto_region 4 with fail
 rename_i Kr hKr
 have HKR:Hid (∀(a:Act) (w1:World),bodyPost Tryz.prog Tryz.f115 (NumP w kd p tn n ⟨#[]⟩) Exit.ret a w1->Kr a w1):=(λa w1 h=>hKr a w1 (wp_ret h):∀(a:Act) (w1:World),bodyPost Tryz.prog Tryz.f115 (NumP w kd p tn n ⟨#[]⟩) Exit.ret a w1->Kr a w1)
 go_light
 have hc0:=HTS.c0;have hc2:=HTS.c2;have hc3:=HTS.c3;have hc4:=HTS.c4;have hc5:=HTS.c5;go_wp2_with fail;refine hhx.mono ?_;rintro e w2 ⟨hb2,hy,hz⟩;have hT2:=(uh HTS).below hb2;have z3:=hT2.rz;obtain⟨g0,g1,g2,g3,g4,g5,v0,v1,v2,v3,v4,v5,e0,e1,e2,e3,e4,e5⟩:=z3.all;have HBL:Hid (Below w.heap.size w w2):=hT2.bel;clear hhx hT2 z3 hc0 hc2 hc3 hc4 hc5 c1 HTS hb2;by_cases hk0:kd=0
 ·obtain⟨a,b,c,d,m,t,he⟩:=hz hk0;subst he;have HK0:Hid (kd=0):=hk0;clear hy hz hk0;unfold tokV;go_wp2_with fail;refine(uh HKR) _ _ (bodyPost_ret (by simp[results,Tryz.results115,go_sem,e0,e1,e2,e3,e4,e5];rfl) rfl ?_);refine⟨st6_bel HBL (Nat.le_succ _) _ _ _ _ _ _,λg=>(g HK0).elim,λ_=>⟨_,_,_,_,_,_,rfl⟩⟩
 ·have he:=hy hk0;subst he;have HK0:Hid (kd≠0):=hk0;clear hy hz hk0;unfold tokV;go_wp2_with fail;refine(uh HKR) _ _ (bodyPost_ret (by simp[results,Tryz.results115,go_sem,e0,e1,e2,e3,e4,e5];rfl) rfl ?_);refine⟨st6_bel HBL (Nat.le_succ _) _ _ _ _ _ _,λ_=>rfl,λg=>(HK0 g).elim⟩
theorem nohex_hv(h:NoHex L j):hv (lk L j)=-1:=by
 apply hv_no;rcases h with h|⟨x,h1,h2⟩
 ·rw[lk_none h];exact dgb_zero
 ·rw[lk_some h1];unfold dgb;simp;exact h2
theorem hex_hv{x:UInt8}(h:L[j]? =some x)(hd:Rd.dw x<16):hv (lk L j)=(Rd.dw x:Int):=by
 rw[lk_some h];have h1:dgb 16 x=true:=by unfold dgb;simpa using hd
 rw[(hv_yes h1).1];unfold Rd.dv;unfold Rd.dw at hd⊢;split
 ·rfl
 ·rename_i g
  rw[if_neg g]at hd;split
  ·rfl
  ·rename_i g2
   rw[if_neg g2]at hd;omega
theorem step_append_own{P:Program}{ops:Array Oper}{o:Oper}{a:Act}{K:Act->World->Prop}{Q:Exit->Act->World->Prop}{E:Prop}
  (hg:o.guard=none) (s x:Operand) (t:TypeId) (ho:o.op=.call {callee:=.builtin .append,args:=#[s,x],argTypes:=#[t,t]})
  (base:Nat) (e:TypeId) (i:TypeInfo) (z:Value) (size bytes:Nat) (ht:P.underlying t=some (.slice e)) (hi:P.info? e=some i) (hz:i.zero=some z)
  (hsize:i.size=size) (hby:i.bytes=bytes) (hzs:z.cells.size=size) (hsz:0<size)
  (v:Value) (n:Nat) (xs:List Value) (hs:a.eval s=v) (hown:w.ownsRow base e size v n xs)
  (ad:Addr) (m c:Nat) (news:List Value) (hx:a.eval x=.slice (some ad) m c) (hl:news.length=m*size) (hnews:∀j u,news[j]? =some u->w.cell? (ad.add j)=some u) (h1:∀u ∈ news,u.oneCell'=true)
  (h63:n+m<=maxLen) (hbytes:(n+m)*bytes<=140737488355328) (hbase:base<=w.heap.size)
  (h:∀v' w',w'.ownsRow base e size v' (n+m) (xs++news)->w.grownBy w' v.ownBlock->(v'=.slice none 0 0↔v=.slice none 0 0/\m=0)->K (a.put o.dst v') w'):
  if Region.wanted o (yielded ops a.tmps)=true then Oper.wp P o a w K Q else E:=by
 have hw:Region.wanted o (yielded ops a.tmps)=true:=by simp[Region.wanted,hg]
 rw[if_pos hw];exact wp_append_own w s x t ho base e i z size bytes ht hi hz hsize hby hzs hsz v n xs hs hown ad m c news hx hl hnews h1 h63 hbytes hbase h
theorem own_heap{base:Nat}{e:TypeId}{size:Nat}{n:Nat}{xs:List Value}(h:W.ownsRow base e size v n xs)(he:W'.heap=W.heap):W'.ownsRow base e size v n xs:=by
 unfold World.ownsRow at h⊢;rw[he];exact h
theorem cells_heap{a:Addr}{l:List Value}(h:∀j u,l[j]? =some u->W.cell? (a.add j)=some u)(he:W'.heap=W.heap):∀j u,l[j]? =some u->W'.cell? (a.add j)=some u:=λj u hu=>by
 rw[<-h j u hu];exact World.cell?_of_block (by rw[he])
structure Mt (w:World) (p:Int) (acc:List UInt8) (v:Value) (W:World):Prop where
 ts:Ts w 4 p 0 0 ⟨#[]⟩ W
 row:W.ownsRow (w.heap.size+2) 5 1 v acc.length (Lib.byteCells acc)
theorem Mt.add{p:Int}{acc:List UInt8}{v':Value}{w1:World}{o:Obj}(b:UInt8)(h:Mt w p acc v W)
  (ho:w1.ownsRow (w.heap.size+2) 5 1 v' (acc.length+1) (Lib.byteCells acc++Lib.byteCells [b])) (hg:(W.alloc o).grownBy w1 v.ownBlock):Mt w p (acc++[b]) v' w1:=by
 have hs:=h.ts.size;have hblk:∀i,i<w.heap.size+2->w1.heap[i]? =W.heap[i]?:=λi hi=>(hg.block i (by simp;omega) (λe2=>by have:=(h.row.lt i e2.symm).1;omega)).trans (Below.heap_alloc _ _ _ (by omega));have hgs:=hg.size;have hb:=h.ts.bel;refine⟨⟨⟨hg.os.trans hb.os,hg.tape.trans hb.tape,hg.output.trans hb.output,?_,λi hi=>?_⟩,?_,?_⟩,?_⟩
 ·simp at hgs;omega
 ·rw[hblk i (by omega)];exact hb.block i hi
 ·exact(hblk _ (by omega)).trans h.ts.tb
 ·exact(hblk _ (by omega)).trans h.ts.rz
 ·rw[List.length_append,bc_append];exact ho
def StI(L:List UInt8)(w:World)(p:Nat)(ok:Bool)(tn:Nat)(t:List UInt8)(j:Nat)(acc:List UInt8)(v:Value)(wr:World):Prop:=
 Mt w p acc v wr/\Sr L j acc ok tn t/\acc.length<=j/\p<j
theorem spec_string(T:ByteArray)(L:List UInt8)(hT:T.data.toList=L)(hlen:L.length<=65536)(p:Nat)(hp:p<L.length){t:List UInt8}(hn:Sr L (p+1) [] ok tn t)(kd:Int)(hkd:kd=if ok=true then 4 else 0)(w:World):
  Calls Tryz.prog 116 #[.string T,tokV 0 p 0 0 0 ⟨#[]⟩] w (NumP w kd p tn 0 ⟨t.toArray⟩):=by
 have hs:T.size=L.length:=by rw[<-hT];simp
 obtain⟨M,hM,hLM⟩:∃M:Int,M<=65536/\(L.length:Int)<=M:=⟨L.length,by omega,Int.le_refl _⟩
 have hpM:(p:Int)+1<=M:=by omega
 have HLH:Hid (LkAll T L):=(λj=>spec_look T L hT j:LkAll T L)
 have HXH:Hid (IxAll T L):=(λj c hj=>ix T L hT j c hj:IxAll T L)
 obtain⟨i0,hi0,hz0,hz1,hz2⟩:=info_parts info5;have HI0:Hid (Tryz.prog.info? 5=some i0):=hi0;have HKD:Hid (kd=if ok=true then 4 else 0):=hkd;have hst:=Ts.start w 4 p 0 0 ⟨#[]⟩;obtain⟨W,hWe,hts⟩:∃W,W=(w.alloc (.cells #[.int .i64 4,.int .i64 p,.int .i64 0,.int .i64 0,.int .i64 0,.string ⟨#[]⟩] 125)).alloc (.cells #[.int .i64 0,.int .i64 0,.int .i64 0,.int .i64 0,.int .i64 0,.string ⟨#[]⟩] 125)/\Ts w 4 p 0 0 ⟨#[]⟩ W:=⟨_,rfl,hst⟩
 have HT0:Hid (StI L w p ok tn t (p+1) [] (.slice none 0 0) W):=(⟨⟨hts,World.ownsRow_nil _ _ _ _⟩,hn,by simp,by omega⟩:_/\_/\_/\_)
 have c1:=hts.c1;clear hT hlen hn hkd hst hts hi0;show Calls Tryz.prog 116 #[.string T,.agg #[.int .i64 0,.int .i64 p,.int .i64 0,.int .i64 0,.int .i64 0,.string ⟨#[]⟩]] w _;go_enter Tryz.func116,Tryz.ntmps116
 go_upto_block 0 with fail
 rw[<-hWe];clear hWe c1;go_wp2_with fail
 go_loopw [6,7] (λs6 s7 wr=>∃(j:Nat) (acc:List UInt8) (v:Value),s6=.int .i64 j/\v=s7/\j<=L.length/\StI L w p ok tn t j acc v wr) (λs6 _ _=>L.length-(intOf s6).toNat)
 case atStart=>exact⟨p+1,[],.slice none 0 0,by go_num,rfl,by omega,HT0⟩
 case round=>
  clear HT0;obtain⟨j,acc,v,rfl,hvv,hj,HI⟩:=hrel;subst hvv;obtain⟨hMt,hr,hac,hpj⟩:=(uh HI)
  clear HI;have hjM:(j:Int)<=M:=by omega
  have HTS:Hid (Ts w 4 p 0 0 ⟨#[]⟩ wr):=hMt.ts;rcases hr.inv with⟨r1,r2,r3,r4⟩|⟨r1,r2,r3,r4⟩|⟨r1,r2,r3,r4⟩|⟨x,ev,r1,r2,r3,r4,r5,r6⟩|⟨x,b,ee,r1,r2,r3,r4,r5⟩
  ·have HB:Hid (kd=0/\j=tn):=(⟨by rw[show kd=_ from HKD,r2];rfl,r3.symm⟩:_/\_)
   have hlt:¬(j:Int)<(T.size:Int):=by omega
   clear hMt hr r1 r2 r3 r4 HLH HXH;go_upto_region 34 with fail
   rename_i Kr hKr
   have HKR:Hid (∀(a:Act) (w1:World),bodyPost Tryz.prog Tryz.f116 (NumP w kd p tn 0 ⟨t.toArray⟩) Exit.ret a w1->Kr a w1):=(λa w1 h=>hKr a w1 (wp_ret h):∀(a:Act) (w1:World),bodyPost Tryz.prog Tryz.f116 (NumP w kd p tn 0 ⟨t.toArray⟩) Exit.ret a w1->Kr a w1)
   go_light
   have h6:=(uh HTS)
   have hc0:=h6.c0;have hc1:=h6.c1;have hc2:=h6.c2;have hc3:=h6.c3;have hc4:=h6.c4;have hc5:=h6.c5;have z3:=h6.rz;obtain⟨g0,g1,g2,g3,g4,g5,v0,v1,v2,v3,v4,v5,e0,e1,e2,e3,e4,e5⟩:=z3.all;have HBL:Hid (Below w.heap.size w _):=h6.bel;clear h6 z3;go_wp2_with fail;refine(uh HKR) _ _ (bodyPost_ret (by simp[results,Tryz.results116,go_sem,e0,e1,e2,e3,e4,e5];rfl) rfl ?_);obtain⟨k1,k2⟩:=(uh HB)
   exact⟨st6_bel HBL (Nat.le_succ _) _ _ _ _ _ _,λg=>(g k1).elim,λ_=>⟨_,_,_,_,_,_,by rw[<-k2];first|rfl|(simp;done)|go_num⟩⟩
  ·have HB:Hid (kd=0/\j=tn):=(⟨by rw[show kd=_ from HKD,r2];rfl,r3.symm⟩:_/\_)
   have hjn:j<L.length:=(List.getElem?_eq_some_iff.1 r1).1;have hlt:(j:Int)<(T.size:Int):=by omega
   have hix:=(uh HXH) j _ r1;clear hMt hr r1 r2 r3 r4 HLH HXH;go_upto_region 11 with fail
   rename_i Kr hKr
   have HKR:Hid (∀(a:Act) (w1:World),bodyPost Tryz.prog Tryz.f116 (NumP w kd p tn 0 ⟨t.toArray⟩) Exit.ret a w1->Kr a w1):=(λa w1 h=>hKr a w1 (wp_ret h):∀(a:Act) (w1:World),bodyPost Tryz.prog Tryz.f116 (NumP w kd p tn 0 ⟨t.toArray⟩) Exit.ret a w1->Kr a w1)
   go_light
   have h6:=(uh HTS)
   have hc0:=h6.c0;have hc1:=h6.c1;have hc2:=h6.c2;have hc3:=h6.c3;have hc4:=h6.c4;have hc5:=h6.c5;have z3:=h6.rz;obtain⟨g0,g1,g2,g3,g4,g5,v0,v1,v2,v3,v4,v5,e0,e1,e2,e3,e4,e5⟩:=z3.all;have HBL:Hid (Below w.heap.size w _):=h6.bel;clear h6 z3;go_wp2_with fail;refine(uh HKR) _ _ (bodyPost_ret (by simp[results,Tryz.results116,go_sem,e0,e1,e2,e3,e4,e5];rfl) rfl ?_);obtain⟨k1,k2⟩:=(uh HB)
   exact⟨st6_bel HBL (Nat.le_succ _) _ _ _ _ _ _,λg=>(g k1).elim,λ_=>⟨_,_,_,_,_,_,by rw[<-k2];first|rfl|(simp;done)|go_num⟩⟩
  ·have hjn:j<L.length:=(List.getElem?_eq_some_iff.1 r1).1;have hlt:(j:Int)<(T.size:Int):=by omega
   have hjM1:(j:Int)+1<=M:=by omega
   have hix:=(uh HXH) j _ r1;have HB:Hid (kd=4/\j+1=tn/\t=acc):=(⟨by rw[show kd=_ from HKD,r2];rfl,r3.symm,r4⟩:_/\_/\_)
   have c2:=hMt.ts.c2;have f2:=hMt.ts.fz 2;have h2:=hMt.ts.set2 ((j:Int)+1);have c5:=h2.c5;have f5:=h2.fz 5
   have hcv:(convert 38 9 v).run Tryz.prog (wr.setCell ⟨w.heap.size,2,none⟩ (.int .i64 ((j:Int)+1)))=.ok (.string ⟨acc.toArray⟩) (wr.setCell ⟨w.heap.size,2,none⟩ (.int .i64 ((j:Int)+1))):=
    conv_any (rowKb hMt.row ((Kb.refl w.heap.size wr).setCell 2 _) (by omega))
   obtain⟨W6,hW6,HT6⟩:∃W6,W6=(wr.setCell ⟨w.heap.size,2,none⟩ (.int .i64 ((j:Int)+1))).setCell ⟨w.heap.size,5,none⟩ (.string ⟨acc.toArray⟩)/\Hid (Ts w 4 p ((j:Int)+1) 0 ⟨acc.toArray⟩ W6):=⟨_,rfl,h2.set5 _⟩
   clear hMt hr r1 r2 r3 r4 h2 HLH HXH HTS;have HX0:Hid (∃X:ByteArray,X=⟨acc.toArray⟩):=(⟨_,rfl⟩:∃X:ByteArray,X=⟨acc.toArray⟩)
   generalize hX:(⟨acc.toArray⟩:ByteArray)=X at*;have HX:Hid ((⟨acc.toArray⟩:ByteArray)=X):=hX;clear hX HX0;go_upto_region 9 with fail
   rename_i Kr hKr
   have HKR:Hid (∀(a:Act) (w1:World),bodyPost Tryz.prog Tryz.f116 (NumP w kd p tn 0 ⟨t.toArray⟩) Exit.ret a w1->Kr a w1):=(λa w1 h=>hKr a w1 (wp_ret h):∀(a:Act) (w1:World),bodyPost Tryz.prog Tryz.f116 (NumP w kd p tn 0 ⟨t.toArray⟩) Exit.ret a w1->Kr a w1)
   go_light
   rw[<-hW6];clear hW6 c2 f2 c5 f5 hcv;have h6:=(uh HT6)
   have hc0:=h6.c0;have hc1:=h6.c1;have hc2:=h6.c2;have hc3:=h6.c3;have hc4:=h6.c4;have hc5:=h6.c5;have z3:=h6.rz;obtain⟨g0,g1,g2,g3,g4,g5,v0,v1,v2,v3,v4,v5,e0,e1,e2,e3,e4,e5⟩:=z3.all;have HBL:Hid (Below w.heap.size w _):=h6.bel;clear h6 z3;go_wp2_with fail;refine(uh HKR) _ _ (bodyPost_ret (by simp[results,Tryz.results116,go_sem,e0,e1,e2,e3,e4,e5];rfl) rfl ?_);obtain⟨k1,k2,k3⟩:=(uh HB)
   subst k1 k2 k3;exact⟨st6_bel HBL (Nat.le_succ _) _ _ _ _ _ _,λ_=>by rw[show(⟨t.toArray⟩:ByteArray)=X from HX];rfl,λg=>absurd g (by decide)⟩
  ·have hjn:j<L.length:=(List.getElem?_eq_some_iff.1 r1).1;have hlt:(j:Int)<(T.size:Int):=by omega
   have hjM1:(j:Int)+1<=M:=by omega
   have hkd0:kd=0:=by rw[show kd=_ from HKD,r5];rfl
   have hix:=(uh HXH) j _ r1
   have hl:∀W,Calls Tryz.prog 122 #[.string T,.int .i64 ((j:Int)+1)] W λe w'=>e=.returned (.int .u8 ((lk L (j+1)).toNat:Int))/\w'=W:=λW=>by
    have:=(uh HLH) (j+1) W;rw[show((j+1:Nat):Int)=(j:Int)+1 by omega]at this;exact this
   have hl2:∀W,Calls Tryz.prog 122 #[.string T,.int .i64 ((j:Int)+2)] W λe w'=>e=.returned (.int .u8 ((lk L (j+2)).toNat:Int))/\w'=W:=λW=>by
    have:=(uh HLH) (j+2) W;rw[show((j+2:Nat):Int)=(j:Int)+2 by omega]at this;exact this
   have hl3:∀W,Calls Tryz.prog 122 #[.string T,.int .i64 ((j:Int)+3)] W λe w'=>e=.returned (.int .u8 ((lk L (j+3)).toNat:Int))/\w'=W:=λW=>by
    have:=(uh HLH) (j+3) W;rw[show((j+3:Nat):Int)=(j:Int)+3 by omega]at this;exact this
   obtain⟨e9,he9,r9⟩:∃e9,e9=tn/\Elt L j false ev e9:=⟨tn,rfl,r4⟩
   clear r4;cases r9 with
   |hexA h hc hno=>
    obtain rfl:x=92:=Option.some.inj (r1.symm.trans h);have hh2:=spec_hexb (lk L (j+2));rw[nohex_hv hno]at hh2;rw[lk_some hc]at hl;have HB:Hid (kd=0/\j+2=tn):=(⟨hkd0,he9⟩:_/\_)
    clear hMt hr r1 r2 r3 r5 r6 h hc hno HLH HXH hl3 hkd0 he9;generalize ((lk L (j+2)).toNat:Int)=y2 at*;go_wp2_with fail;refine(hl _).mono ?_;rintro e w1 ⟨rfl,hw1⟩;rw[hw1];clear hl hw1;go_wp2_with fail;refine wp_loop_rounds 1 ?_;rw[rounds_succ];go_wp2_with fail;refine(hl2 _).mono ?_;rintro e w1 ⟨rfl,hw1⟩;rw[hw1];clear hl2 hw1;go_wp2_with fail;refine(hh2 _).mono ?_;rintro e w1 ⟨rfl,hw1⟩;rw[hw1];clear hh2 hw1;go_upto_region 30 with fail
    rename_i Kr hKr
    have HKR:Hid (∀(a:Act) (w1:World),bodyPost Tryz.prog Tryz.f116 (NumP w kd p tn 0 ⟨t.toArray⟩) Exit.ret a w1->Kr a w1):=(λa w1 h=>hKr a w1 (wp_ret h):∀(a:Act) (w1:World),bodyPost Tryz.prog Tryz.f116 (NumP w kd p tn 0 ⟨t.toArray⟩) Exit.ret a w1->Kr a w1)
    go_light
    have h6:=(uh HTS)
    have hc0:=h6.c0;have hc1:=h6.c1;have hc2:=h6.c2;have hc3:=h6.c3;have hc4:=h6.c4;have hc5:=h6.c5;have z3:=h6.rz;obtain⟨g0,g1,g2,g3,g4,g5,v0,v1,v2,v3,v4,v5,e0,e1,e2,e3,e4,e5⟩:=z3.all;have HBL:Hid (Below w.heap.size w _):=h6.bel;clear h6 z3;go_wp2_with fail;refine(uh HKR) _ _ (bodyPost_ret (by simp[results,Tryz.results116,go_sem,e0,e1,e2,e3,e4,e5];rfl) rfl ?_);obtain⟨k1,k2⟩:=(uh HB)
    exact⟨st6_bel HBL (Nat.le_succ _) _ _ _ _ _ _,λg=>(g k1).elim,λ_=>⟨_,_,_,_,_,_,by rw[<-k2];first|rfl|(simp;done)|go_num⟩⟩
   |hexB x2 h hc hx hxd hno=>
    obtain rfl:x=92:=Option.some.inj (r1.symm.trans h);have hj2:j+2<L.length:=(List.getElem?_eq_some_iff.1 hx).1;have hjM3:(j:Int)+3<=M:=by omega
    have hh2:=spec_hexb (lk L (j+2));rw[hex_hv hx hxd]at hh2;have hh3:=spec_hexb (lk L (j+3));rw[nohex_hv hno]at hh3;rw[lk_some hc]at hl;have HB:Hid (kd=0/\j+3=tn):=(⟨hkd0,he9⟩:_/\_)
    have hd0:(0:Int)<=(Rd.dw x2:Int):=by omega
    clear hMt hr r1 r2 r3 r5 r6 h hc hno HLH HXH hkd0 hx hxd he9;generalize ((lk L (j+2)).toNat:Int)=y2 at*;generalize ((lk L (j+3)).toNat:Int)=y3 at*;generalize (Rd.dw x2:Int)=d2 at*;go_wp2_with fail;refine(hl _).mono ?_;rintro e w1 ⟨rfl,hw1⟩;rw[hw1];clear hl hw1;go_wp2_with fail;refine wp_loop_rounds 2 ?_;rw[rounds_succ];go_wp2_with fail;refine(hl2 _).mono ?_;rintro e w1 ⟨rfl,hw1⟩;rw[hw1];clear hl2 hw1;go_wp2_with fail;refine(hh2 _).mono ?_;rintro e w1 ⟨rfl,hw1⟩;rw[hw1];clear hh2 hw1;go_wp2_with fail;rw[rounds_succ];go_wp2_with fail;refine(hl3 _).mono ?_;rintro e w1 ⟨rfl,hw1⟩;rw[hw1];clear hl3 hw1;go_wp2_with fail;refine(hh3 _).mono ?_;rintro e w1 ⟨rfl,hw1⟩;rw[hw1];clear hh3 hw1;go_upto_region 30 with fail
    rename_i Kr hKr
    have HKR:Hid (∀(a:Act) (w1:World),bodyPost Tryz.prog Tryz.f116 (NumP w kd p tn 0 ⟨t.toArray⟩) Exit.ret a w1->Kr a w1):=(λa w1 h=>hKr a w1 (wp_ret h):∀(a:Act) (w1:World),bodyPost Tryz.prog Tryz.f116 (NumP w kd p tn 0 ⟨t.toArray⟩) Exit.ret a w1->Kr a w1)
    go_light
    have h6:=(uh HTS)
    have hc0:=h6.c0;have hc1:=h6.c1;have hc2:=h6.c2;have hc3:=h6.c3;have hc4:=h6.c4;have hc5:=h6.c5;have z3:=h6.rz;obtain⟨g0,g1,g2,g3,g4,g5,v0,v1,v2,v3,v4,v5,e0,e1,e2,e3,e4,e5⟩:=z3.all;have HBL:Hid (Below w.heap.size w _):=h6.bel;clear h6 z3;go_wp2_with fail;refine(uh HKR) _ _ (bodyPost_ret (by simp[results,Tryz.results116,go_sem,e0,e1,e2,e3,e4,e5];rfl) rfl ?_);obtain⟨k1,k2⟩:=(uh HB)
    exact⟨st6_bel HBL (Nat.le_succ _) _ _ _ _ _ _,λg=>(g k1).elim,λ_=>⟨_,_,_,_,_,_,by rw[<-k2];first|rfl|(simp;done)|go_num⟩⟩
   |none h hc=>
    obtain rfl:x=92:=Option.some.inj (r1.symm.trans h);have HB:Hid (kd=0/\j+1=tn):=(⟨hkd0,he9⟩:_/\_)
    have hnq:∀c:UInt8,c≠0->L[j+1]? ≠some c->(((lk L (j+1)).toNat:Int)==(c.toNat:Int))=false:=by
     intro c hc0 hne
     simp
     intro g;exact hne ((lk_iff hc0).1 (UInt8.toNat_inj.1 (by omega)))
    have n1:(((lk L (j+1)).toNat:Int)==110)=false:=hnq 110 (by decide) hc.1;have n2:(((lk L (j+1)).toNat:Int)==116)=false:=hnq 116 (by decide) hc.2.1;have n3:(((lk L (j+1)).toNat:Int)==34)=false:=hnq 34 (by decide) hc.2.2.1;have n4:(((lk L (j+1)).toNat:Int)==92)=false:=hnq 92 (by decide) hc.2.2.2.1;have n5:(((lk L (j+1)).toNat:Int)==120)=false:=hnq 120 (by decide) hc.2.2.2.2;clear hMt hr r1 r2 r3 r5 r6 h hc hnq HLH HXH hkd0 hl2 hl3 he9;generalize ((lk L (j+1)).toNat:Int)=y1 at*;go_wp2_with fail;refine(hl _).mono ?_;rintro e w1 ⟨rfl,hw1⟩;rw[hw1];clear hl hw1;go_upto_region 17 with fail
    rename_i Kr hKr
    have HKR:Hid (∀(a:Act) (w1:World),bodyPost Tryz.prog Tryz.f116 (NumP w kd p tn 0 ⟨t.toArray⟩) Exit.ret a w1->Kr a w1):=(λa w1 h=>hKr a w1 (wp_ret h):∀(a:Act) (w1:World),bodyPost Tryz.prog Tryz.f116 (NumP w kd p tn 0 ⟨t.toArray⟩) Exit.ret a w1->Kr a w1)
    go_light
    have h6:=(uh HTS)
    have hc0:=h6.c0;have hc1:=h6.c1;have hc2:=h6.c2;have hc3:=h6.c3;have hc4:=h6.c4;have hc5:=h6.c5;have z3:=h6.rz;obtain⟨g0,g1,g2,g3,g4,g5,v0,v1,v2,v3,v4,v5,e0,e1,e2,e3,e4,e5⟩:=z3.all;have HBL:Hid (Below w.heap.size w _):=h6.bel;clear h6 z3;go_wp2_with fail;refine(uh HKR) _ _ (bodyPost_ret (by simp[results,Tryz.results116,go_sem,e0,e1,e2,e3,e4,e5];rfl) rfl ?_);obtain⟨k1,k2⟩:=(uh HB)
    exact⟨st6_bel HBL (Nat.le_succ _) _ _ _ _ _ _,λg=>(g k1).elim,λ_=>⟨_,_,_,_,_,_,by rw[<-k2];first|rfl|(simp;done)|go_num⟩⟩
  ·have hjn:j<L.length:=(List.getElem?_eq_some_iff.1 r1).1;have hlt:(j:Int)<(T.size:Int):=by omega
   have hjM1:(j:Int)+1<=M:=by omega
   have hgt:=r4.gt;have hle:=r4.le;have h1c:=bc_one [b];have hbc:Lib.byteCells [b]=[.int .u8 b.toNat]:=rfl;rw[hbc]at h1c;have hix:=(uh HXH) j _ r1;have howna:∀o:Obj,(wr.alloc o).ownsRow (w.heap.size+2) 5 1 v acc.length (Lib.byteCells acc):=λo=>hMt.row.alloc o;have hownd:∀(n:Nat) (o:Obj),((wr.drewN n).alloc o).ownsRow (w.heap.size+2) 5 1 v acc.length (Lib.byteCells acc):=λn o=>hMt.row.alloc o;have hs4:=hMt.ts.size
   have HADD:Hid (∀(o:Obj) (v':Value) (w5:World),w5.ownsRow (w.heap.size+2) 5 1 v' (acc.length+1) (Lib.byteCells acc++[.int .u8 b.toNat])->(wr.alloc o).grownBy w5 v.ownBlock->StI L w p ok tn t ee (acc++[b]) v' w5):=
    (λo v' w5 ho hg=>⟨hMt.add b (by rw[hbc];exact ho) hg,r5,by rw[List.length_append];simp;omega,by omega⟩:∀(o:Obj) (v':Value) (w5:World),w5.ownsRow (w.heap.size+2) 5 1 v' (acc.length+1) (Lib.byteCells acc++[.int .u8 b.toNat])->(wr.alloc o).grownBy w5 v.ownBlock->StI L w p ok tn t ee (acc++[b]) v' w5)
   have hacb:acc.length<=L.length:=by omega
   have hLb:L.length<=65536:=by omega
   have hl:∀W,Calls Tryz.prog 122 #[.string T,.int .i64 ((j:Int)+1)] W λe w'=>e=.returned (.int .u8 ((lk L (j+1)).toNat:Int))/\w'=W:=λW=>by
    have:=(uh HLH) (j+1) W;rw[show((j+1:Nat):Int)=(j:Int)+1 by omega]at this;exact this
   have hx10:(((x.toNat:Nat):Int)==10)=false:=by simp;intro g;exact r3 (UInt8.toNat_inj.1 (show x.toNat=10 by omega))
   have hx34:(((x.toNat:Nat):Int)==34)=false:=by simp;intro g;exact r2 (UInt8.toNat_inj.1 (show x.toNat=34 by omega))
   generalize hbv:(b.toNat:Int)=bv at r4;cases r4 with
   |plain x1 h hx1=>
    obtain rfl:x=x1:=Option.some.inj (r1.symm.trans h);obtain rfl:b=x:=UInt8.toNat_inj.1 (by omega);have hx92:(((b.toNat:Nat):Int) !=92)=true:=by simp;intro g;exact hx1 (UInt8.toNat_inj.1 (show b.toNat=92 by omega))
    obtain⟨ee,hee⟩:∃ee,j+1=ee:=⟨_,rfl⟩
    rw[hee]at HADD hle hgt;clear hMt hr r1 r2 r3 r5 h hx1 HLH HXH hl hbc hbv HTS;generalize (b.toNat:Int)=bi at*;go_wp2_with (at_builtin;refine wpList_append_own _ rfl (.tmp 36) (.tmp 38) 38 rfl (w.heap.size+2) 5 i0 (.int .u8 0) 1 1 Tryz.underlying38 HI0 hz0 hz1 hz2 rfl (by decide) _ _ _ rfl (howna _) ⟨wr.heap.size,0,none⟩ 1 1 [.int .u8 bi] rfl rfl (qr_cells wr #[.int .u8 bi] 5 _ rfl) h1c (by unfold maxLen;omega) (by omega) (by simp;omega) ?_;intro v' w5 hown1 hgrow1 _);have hN:=(uh HADD) _ _ _ hown1 hgrow1;clear HADD hown1 hgrow1 howna;go_wp2_with fail;go_roundw
    case rel=>exact⟨ee,acc++[b],v',by go_num,rfl,hle,hN⟩
    case measure=>simp[intOf];omega
   |simple c vv h hc hv=>
    obtain rfl:x=92:=Option.some.inj (r1.symm.trans h);have hix1:=(uh HXH) (j+1) _ hc;rw[show((j+1:Nat):Int)=(j:Int)+1 by omega]at hix1;rw[lk_some hc]at hl;obtain⟨ee,hee⟩:∃ee,j+2=ee:=⟨_,rfl⟩
    rw[hee]at HADD hle hgt;rw[hbv]at HADD h1c;clear hMt hr r1 r2 r3 r5 h hc HLH HXH hbc HTS hbv hx10 hx34;rcases hv with⟨rfl,rfl⟩|⟨rfl,rfl⟩|⟨rfl,rfl⟩|⟨rfl,rfl⟩
    ·go_wp2_with fail;refine(hl _).mono ?_;rintro e w1 ⟨rfl,hw1⟩;rw[hw1];clear hl hw1;go_wp2_with (at_builtin;refine wpList_append_own _ rfl (.tmp 51) (.tmp 52) 38 rfl (w.heap.size+2) 5 i0 (.int .u8 0) 1 1 Tryz.underlying38 HI0 hz0 hz1 hz2 rfl (by decide) _ _ _ rfl (howna _) ⟨wr.heap.size,0,none⟩ 1 1 [.int .u8 10] rfl rfl (qr_cells wr #[.int .u8 10] 5 _ rfl) h1c (by unfold maxLen;omega) (by omega) (by simp;omega) ?_;intro v' w5 hown1 hgrow1 _);have hN:=(uh HADD) _ _ _ hown1 hgrow1;clear HADD hown1 hgrow1 howna;go_wp2_with fail;go_roundw
     case rel=>exact⟨ee,acc++[b],v',by go_num,rfl,hle,hN⟩
     case measure=>simp[intOf];omega
    ·go_wp2_with fail;refine(hl _).mono ?_;rintro e w1 ⟨rfl,hw1⟩;rw[hw1];clear hl hw1;go_wp2_with (at_builtin;refine wpList_append_own _ rfl (.tmp 56) (.tmp 57) 38 rfl (w.heap.size+2) 5 i0 (.int .u8 0) 1 1 Tryz.underlying38 HI0 hz0 hz1 hz2 rfl (by decide) _ _ _ rfl (howna _) ⟨wr.heap.size,0,none⟩ 1 1 [.int .u8 9] rfl rfl (qr_cells wr #[.int .u8 9] 5 _ rfl) h1c (by unfold maxLen;omega) (by omega) (by simp;omega) ?_;intro v' w5 hown1 hgrow1 _);have hN:=(uh HADD) _ _ _ hown1 hgrow1;clear HADD hown1 hgrow1 howna;go_wp2_with fail;go_roundw
     case rel=>exact⟨ee,acc++[b],v',by go_num,rfl,hle,hN⟩
     case measure=>simp[intOf];omega
    ·go_wp2_with fail;refine(hl _).mono ?_;rintro e w1 ⟨rfl,hw1⟩;rw[hw1];clear hl hw1;go_wp2_with (at_builtin;refine wpList_append_own _ rfl (.tmp 62) (.tmp 66) 38 rfl (w.heap.size+2) 5 i0 (.int .u8 0) 1 1 Tryz.underlying38 HI0 hz0 hz1 hz2 rfl (by decide) _ _ _ rfl (howna _) ⟨wr.heap.size,0,none⟩ 1 1 [.int .u8 34] rfl rfl (qr_cells wr #[.int .u8 34] 5 _ rfl) h1c (by unfold maxLen;omega) (by omega) (by simp;omega) ?_;intro v' w5 hown1 hgrow1 _);have hN:=(uh HADD) _ _ _ hown1 hgrow1;clear HADD hown1 hgrow1 howna;go_wp2_with fail;go_roundw
     case rel=>exact⟨ee,acc++[b],v',by go_num,rfl,hle,hN⟩
     case measure=>simp[intOf];omega
    ·go_wp2_with fail;refine(hl _).mono ?_;rintro e w1 ⟨rfl,hw1⟩;rw[hw1];clear hl hw1;go_wp2_with (at_builtin;refine wpList_append_own _ rfl (.tmp 62) (.tmp 66) 38 rfl (w.heap.size+2) 5 i0 (.int .u8 0) 1 1 Tryz.underlying38 HI0 hz0 hz1 hz2 rfl (by decide) _ _ _ rfl (howna _) ⟨wr.heap.size,0,none⟩ 1 1 [.int .u8 92] rfl rfl (qr_cells wr #[.int .u8 92] 5 _ rfl) h1c (by unfold maxLen;omega) (by omega) (by simp;omega) ?_;intro v' w5 hown1 hgrow1 _);have hN:=(uh HADD) _ _ _ hown1 hgrow1;clear HADD hown1 hgrow1 howna;go_wp2_with fail;go_roundw
     case rel=>exact⟨ee,acc++[b],v',by go_num,rfl,hle,hN⟩
     case measure=>simp[intOf];omega
   |hex x2 y2 h hc hx hxd hy hyd=>
    obtain rfl:x=92:=Option.some.inj (r1.symm.trans h);have hj3:j+3<L.length:=(List.getElem?_eq_some_iff.1 hy).1;have hjM3:(j:Int)+3<M:=by omega
    have hl2:∀W,Calls Tryz.prog 122 #[.string T,.int .i64 ((j:Int)+2)] W λe w'=>e=.returned (.int .u8 ((lk L (j+2)).toNat:Int))/\w'=W:=λW=>by
     have:=(uh HLH) (j+2) W;rw[show((j+2:Nat):Int)=(j:Int)+2 by omega]at this;exact this
    have hl3:∀W,Calls Tryz.prog 122 #[.string T,.int .i64 ((j:Int)+3)] W λe w'=>e=.returned (.int .u8 ((lk L (j+3)).toNat:Int))/\w'=W:=λW=>by
     have:=(uh HLH) (j+3) W;rw[show((j+3:Nat):Int)=(j:Int)+3 by omega]at this;exact this
    have hix2:=(uh HXH) (j+2) _ hx;rw[show((j+2:Nat):Int)=(j:Int)+2 by omega,<-lk_some hx]at hix2;have hix3:=(uh HXH) (j+3) _ hy;rw[show((j+3:Nat):Int)=(j:Int)+3 by omega,<-lk_some hy]at hix3;have hix2b:=hix2;rw[show(j:Int)+2=(j:Int)+1+1 by omega]at hix2b;have hix3b:=hix3;rw[show(j:Int)+3=(j:Int)+1+2 by omega]at hix3b;have hh2:=spec_hexb (lk L (j+2));rw[hex_hv hx hxd]at hh2;have hh3:=spec_hexb (lk L (j+3));rw[hex_hv hy hyd]at hh3;rw[lk_some hc]at hl;obtain⟨ee,hee⟩:∃ee,j+4=ee:=⟨_,rfl⟩
    rw[hee]at HADD hle hgt;have hbe:(b.toNat:Int)=16*(Rd.dw x2:Int)+(Rd.dw y2:Int):=by omega
    rw[hbe]at HADD h1c;have hd0:(0:Int)<=(Rd.dw x2:Int):=by omega
    have hd1:(Rd.dw x2:Int)<16:=by omega
    have hd2:(0:Int)<=(Rd.dw y2:Int):=by omega
    have hd3:(Rd.dw y2:Int)<16:=by omega
    clear hMt hr r1 r2 r3 r5 h hc HLH HXH hbc HTS hbv hx10 hx34 hx hy hxd hyd hbe;generalize ((lk L (j+2)).toNat:Int)=z2 at*;generalize ((lk L (j+3)).toNat:Int)=z3 at*;generalize (Rd.dw x2:Int)=d2 at*;generalize (Rd.dw y2:Int)=d3 at*;go_wp2_with fail;refine(hl _).mono ?_;rintro e w1 ⟨rfl,hw1⟩;rw[hw1];clear hl hw1;go_wp2_with fail;refine wp_loop_rounds 3 ?_;rw[rounds_succ];go_wp2_with fail;refine(hl2 _).mono ?_;rintro e w1 ⟨rfl,hw1⟩;rw[hw1];clear hl2 hw1;go_wp2_with fail;refine(hh2 _).mono ?_;rintro e w1 ⟨rfl,hw1⟩;rw[hw1];clear hw1;go_wp2_with fail;rw[rounds_succ];go_wp2_with fail;refine(hl3 _).mono ?_;rintro e w1 ⟨rfl,hw1⟩;rw[hw1];clear hl3 hw1;go_wp2_with fail;refine(hh3 _).mono ?_;rintro e w1 ⟨rfl,hw1⟩;rw[hw1];clear hw1;go_wp2_with fail;rw[rounds_succ];go_upto_region 31 with fail;have hw2:IntKind.i64.wrap ((j:Int)+1+1)=(j:Int)+2:=by simp only[IntKind.wrap,IntKind.bits,IntKind.signed];simp;omega
    have hw3:IntKind.i64.wrap ((j:Int)+1+2)=(j:Int)+3:=by simp only[IntKind.wrap,IntKind.bits,IntKind.signed];simp;omega
    have hw4:IntKind.i64.wrap (16*d2)=16*d2:=by simp only[IntKind.wrap,IntKind.bits,IntKind.signed];simp;omega
    have hw5:IntKind.i64.wrap (16*d2+d3)=16*d2+d3:=by simp only[IntKind.wrap,IntKind.bits,IntKind.signed];simp;omega
    have hw6:IntKind.u8.wrap (16*d2+d3)=16*d2+d3:=by simp only[IntKind.wrap,IntKind.bits,IntKind.signed];simp;omega
    go_cut [7]from 107 (λs7 wc=>∃v',v'=s7/\StI L w p ok tn t ee (acc++[b]) v' wc)
    case first=>
     rename_i K4 a5 Q0 K3 a4 wa K2 wb wc h1 wd h2 K1 a3 K0 a2 J0 K9 a1 a0
     clear a5 a4 a3 a2
     go_region_held_law (λ_=>True) (trivial) (first|(go_at_call_of 124 z2;refine(hh2 _).mono ?_;rintro e w1 ⟨rfl,rfl⟩)|(go_at_call_of 124 z3;refine(hh3 _).mono ?_;rintro e w1 ⟨rfl,rfl⟩)|(refine step_append_own rfl (.tmp 85) (.tmp 99) 38 rfl (w.heap.size+2) 5 i0 (.int .u8 0) 1 1 Tryz.underlying38 HI0 hz0 hz1 hz2 rfl (by decide) v _ _ rfl (own_heap (howna (.cells #[.int .u8 (16*d2+d3)] 5)) rfl) ⟨wr.heap.size,0,none⟩ 1 1 [.int .u8 (16*d2+d3)] rfl rfl (cells_heap (qr_cells wr #[.int .u8 (16*d2+d3)] 5 _ rfl) rfl) h1c (by unfold maxLen;omega) (by omega) (by simp;omega) ?_;intro v' w5 hown1 hgrow1 _))
     all_goals
      have hN:=(uh HADD) (.cells #[.int .u8 (16*d2+d3)] 5) _ _ hown1 (by obtain⟨g1,g2,g3,g4,g5⟩:=hgrow1;exact⟨g1,g2,g3,g4,g5⟩);clear HADD hown1 hgrow1 howna hownd;go_wp2_with fail
      rename_i dst0 d0 hq0
      obtain rfl:(100:Nat)=d0:=Option.some.inj hq0;simp only[List.set_cons_zero,List.set_cons_succ]
      go_meet
      case rel=>exact⟨v',rfl,hN⟩
    case rest=>
    obtain⟨v',hvv,hN⟩:=hcut;subst hvv;clear HADD howna hownd hh2 hh3 hix hix2 hix3 hix2b hix3b;go_wp2_with fail;go_roundw
    case rel=>exact⟨ee,acc++[b],v',by go_num,rfl,hle,hN⟩
    case measure=>simp[intOf];omega
