import Derived.Test.YtkhdehngobkkfaaGreatDoorAScc
set_option maxRecDepth 100000
set_option maxHeartbeats 8000000
namespace Go.Proofs.YtkhdehngobkkfaaGreatDoor
open Go.ChangeShapes Go.WideShapes Go.ChangeAt Go.RowKit
set_option linter.unusedVariables false
variable {B k p:Nat}{T:ByteArray}{L:List UInt8}{c x:UInt8}{l:Int}{st:Bool}
theorem impl_token(L:List UInt8)(tk:Nat->Tk)(hB:12<=B)(hlen:L.length<=65536)(hto:∀p,p<L.length->(tk p).to<=L.length)(hc:∀p,p<L.length->PartC 152 B T p (tk p)):TokC B T L tk:=by
 intro p l w hp hl0 hl1 hg h;have hcp:=hc p hp;have htop:=hto p hp;clear hc hto;obtain⟨t,ht⟩:∃t,tk p=t:=⟨_,rfl⟩
 rw[ht]at hcp htop⊢;obtain⟨l',hl'⟩:∃l',(if t.kind=7 then l+1 else l)=l':=⟨_,rfl⟩
 rw[hl'];obtain⟨TV,hTV⟩:∃TV,tkV tk (p,l)=TV:=⟨_,rfl⟩
 rw[hTV];have HL':Hid ((if t.kind=7 then l+1 else l)=l'):=hl';clear hl';have hBlt:B<w.heap.size:=h.lt;have hnB:w.heap.size≠B:=by omega
 have hz:=Mz.start h;have hgz:Gd (w.alloc (.cells #[.int .i64 0,.int .i64 0,.int .i64 0,.int .i64 0,.int .i64 0,.string ⟨#[]⟩] 125)):=hg.kb hB hz.1.1;have c1:=hz.1.2.c1;have c2:=hz.1.2.c2;obtain⟨W,hWe,HS⟩:∃W,W=(w.alloc (.cells #[.int .i64 0,.int .i64 0,.int .i64 0,.int .i64 0,.int .i64 0,.string ⟨#[]⟩] 125))/\Hid (Mz B w.heap.size T p l false w W/\Gd W):=⟨_,rfl,(⟨hz,hgz⟩:_/\_)⟩
 rw[<-hWe]at c1 c2;have HC:Hid (PartC 152 B T p t):=hcp;obtain⟨M,hM,hlM⟩:∃M:Int,M<=65538/\l<M:=⟨65538,by omega,by omega⟩
 have HTV:Hid (TV=tokV t.kind p t.to l t.num t.text):=by show TV=_;rw[<-hTV];unfold tkV;rw[ht]
 clear hTV ht;clear hg h hz hgz hcp hl1 hp htop hlen;go_enter Tryz.func145,Tryz.ntmps145;go_wp2_with fail;rw[<-hWe];clear hWe
 go_quiet (fail)
 obtain⟨W2,hWe2,HS2⟩:∃W2,W2=W.drewN nq/\Hid (Mz B w.heap.size T p l false w W2/\Gd W2):=⟨_,rfl,(⟨HS.1.drewN nq,⟨HS.2.words,HS.2.marks,HS.2.infx,HS.2.err7,HS.2.err6,HS.2.size⟩⟩:_/\_)⟩
 rw[<-hWe2];clear hWe2 HS c1 c2;have hcall:=(uh HC) l W2 HS2.2 HS2.1.1.2;clear HC;unfold tokV at hcall;go_wp2_with fail;refine hcall.mono ?_;rintro en W3 ⟨rfl,m3⟩;have hq:=HS2.1.trans m3 hnB;clear hcall HS2 m3
 have d1:∀o:Obj,(W3.alloc o).cell? ⟨B,1,none⟩=some (.int .i64 t.to):=λo=>by
  rw[World.cell?_of_block (w:=W3) (Below.heap_alloc _ _ _ hq.1.2.lt)];exact hq.1.2.c1
 have HQ:Hid (Mz B w.heap.size T (t.to:Int) l false w W3):=hq;clear hq;go_wp2_with fail
 go_region
 obtain⟨A,hA⟩:∃A,A=(W3.alloc (.cells #[.int .i64 t.kind,.int .i64 p,.int .i64 t.to,.int .i64 l,.int .i64 t.num,.string t.text] 125)).drew:=⟨_,rfl⟩
 rw[<-hA];have hbx:A.heap[W3.heap.size]? =some (.cells #[.int .i64 t.kind,.int .i64 p,.int .i64 t.to,.int .i64 l,.int .i64 t.num,.string t.text] 125 (0,0)):=by rw[hA];show(W3.heap.push _)[W3.heap.size]? =_;simp
 have hmz:Mz B w.heap.size T (t.to:Int) l false w A:=by
  have h1:=(uh HQ)
  have h2:=h1.trans (Mv.below h1.1.2 ((Below.refl _ W3).alloc (Nat.le_refl _) (.cells #[.int .i64 t.kind,.int .i64 p,.int .i64 t.to,.int .i64 l,.int .i64 t.num,.string t.text] 125)) (Nat.le_refl _)) hnB;rw[hA];exact h2.drewN 1
 have hBW:B≠W3.heap.size:=by have:=(uh HQ).1.2.lt;omega
 clear hA HQ d1;generalize hkd:t.kind=kd at*;by_cases h7:kd=7
 ·have hk7:True:=trivial;have hifp:(if kd=7 then l+1 else l)=l+1:=if_pos h7;have HIF:Hid ((if kd=7 then l+1 else l)=l+1):=hifp;subst h7;have c2:=hmz.1.2.c2;have f2:=hmz.1.2.fz 2;have v0:A.cell? ⟨W3.heap.size,0,none⟩=some (.int .i64 7):=by simp[World.cell?,hbx]
  have hmz2:Mz B w.heap.size T (t.to:Int) (l+1) false w (A.setCell ⟨B,2,none⟩ (.int .i64 (l+1))):=⟨⟨hmz.1.1.setCell 2 _,hmz.1.2.set2 _⟩,by unfold Rz;rw[Below.heap_setCell _ _ _ _ hnB];exact hmz.2⟩
  have x0:(A.setCell ⟨B,2,none⟩ (.int .i64 (l+1))).cell? ⟨W3.heap.size,0,none⟩=some (.int .i64 7):=by rw[World.cell?_of_block (w:=A) (Below.heap_setCell _ _ _ _ (by exact λg=>hBW g.symm))];simp[World.cell?,hbx]
  have x1:(A.setCell ⟨B,2,none⟩ (.int .i64 (l+1))).cell? ⟨W3.heap.size,1,none⟩=some (.int .i64 p):=by rw[World.cell?_of_block (w:=A) (Below.heap_setCell _ _ _ _ (by exact λg=>hBW g.symm))];simp[World.cell?,hbx]
  have x2:(A.setCell ⟨B,2,none⟩ (.int .i64 (l+1))).cell? ⟨W3.heap.size,2,none⟩=some (.int .i64 t.to):=by rw[World.cell?_of_block (w:=A) (Below.heap_setCell _ _ _ _ (by exact λg=>hBW g.symm))];simp[World.cell?,hbx]
  have x3:(A.setCell ⟨B,2,none⟩ (.int .i64 (l+1))).cell? ⟨W3.heap.size,3,none⟩=some (.int .i64 l):=by rw[World.cell?_of_block (w:=A) (Below.heap_setCell _ _ _ _ (by exact λg=>hBW g.symm))];simp[World.cell?,hbx]
  have x4:(A.setCell ⟨B,2,none⟩ (.int .i64 (l+1))).cell? ⟨W3.heap.size,4,none⟩=some (.int .i64 t.num):=by rw[World.cell?_of_block (w:=A) (Below.heap_setCell _ _ _ _ (by exact λg=>hBW g.symm))];simp[World.cell?,hbx]
  have x5:(A.setCell ⟨B,2,none⟩ (.int .i64 (l+1))).cell? ⟨W3.heap.size,5,none⟩=some (.string t.text):=by rw[World.cell?_of_block (w:=A) (Below.heap_setCell _ _ _ _ (by exact λg=>hBW g.symm))];simp[World.cell?,hbx]
  have z3:=hmz2.2;obtain⟨g0,g1,g2,g3,g4,g5,y0,y1,y2,y3,y4,y5,e0,e1,e2,e3,e4,e5⟩:=z3.all;have HM4:Hid (Mv B T (t.to:Int) (l+1) false w (A.setCell ⟨B,2,none⟩ (.int .i64 (l+1)))):=hmz2.1;clear hmz hmz2 z3 hbx hifp;go_wp2_with fail;refine bodyPost_ret (by simp[results,Tryz.results145,go_sem,e0,e1,e2,e3,e4,e5];rfl) rfl ?_;rw[show TV=tokV 7 p t.to l t.num t.text from HTV];refine⟨rfl,?_⟩;rw[<-(show _=l' from HL'),show _=_ from HIF];exact st6_mv HM4 (Nat.le_refl _) hnB _ _ _ _ _ _
 ·have hk7:(kd==7)=false:=by simpa using h7
  have hifp:(if kd=7 then l+1 else l)=l:=if_neg h7;have HIF:Hid ((if kd=7 then l+1 else l)=l):=hifp;have x0:A.cell? ⟨W3.heap.size,0,none⟩=some (.int .i64 kd):=by simp[World.cell?,hbx]
  have x1:A.cell? ⟨W3.heap.size,1,none⟩=some (.int .i64 p):=by simp[World.cell?,hbx]
  have x2:A.cell? ⟨W3.heap.size,2,none⟩=some (.int .i64 t.to):=by simp[World.cell?,hbx]
  have x3:A.cell? ⟨W3.heap.size,3,none⟩=some (.int .i64 l):=by simp[World.cell?,hbx]
  have x4:A.cell? ⟨W3.heap.size,4,none⟩=some (.int .i64 t.num):=by simp[World.cell?,hbx]
  have x5:A.cell? ⟨W3.heap.size,5,none⟩=some (.string t.text):=by simp[World.cell?,hbx]
  have z3:=hmz.2;obtain⟨g0,g1,g2,g3,g4,g5,y0,y1,y2,y3,y4,y5,e0,e1,e2,e3,e4,e5⟩:=z3.all;have HM4:Hid (Mv B T (t.to:Int) l false w A):=hmz.1;clear hmz z3 hbx h7 hifp;go_wp2_with fail;refine bodyPost_ret (by simp[results,Tryz.results145,go_sem,e0,e1,e2,e3,e4,e5];rfl) rfl ?_;rw[show TV=tokV kd p t.to l t.num t.text from HTV];refine⟨rfl,?_⟩;rw[<-(show _=l' from HL'),show _=_ from HIF];exact st6_mv HM4 (Nat.le_refl _) hnB _ _ _ _ _ _
theorem lk_iff(hc:c≠0):lk L k=c↔L[k]? =some c:=by
 constructor
 ·intro h;rcases Nat.lt_or_ge k L.length with g|g
  ·have:=List.getElem?_eq_getElem g;rw[lk_some this]at h;rw[this,h]
  ·rw[lk_none g]at h;exact absurd h.symm hc
 ·exact lk_some
theorem lk_at(h:k<L.length):L[k]? =some (lk L k):=by
 have:=List.getElem?_eq_getElem h;rw[lk_some this];exact this
theorem lk_lt(hc:c≠0)(h:lk L k=c):k<L.length:=(List.getElem?_eq_some_iff.1 ((lk_iff hc).1 h)).1
theorem isD_zero:isD 0=false:=by decide
theorem isD_lt(h:isD (lk L k)=true):k<L.length:=by
 rcases Nat.lt_or_ge k L.length with g|g
 ·exact g
 ·rw[lk_none g,isD_zero]at h;cases h
theorem en_at{p:UInt8->Bool}(hz:p 0=false)(h:p (lk L k)=true):en p L k=en p L (k+1)/\k<L.length:=by
 have hk:k<L.length:=by
  rcases Nat.lt_or_ge k L.length with g|g
  ·exact g
  ·rw[lk_none g,hz]at h;cases h
 exact⟨en_step (lk_at hk) h,hk⟩
theorem en_no{p:UInt8->Bool}(h:p (lk L k)=false):en p L k=k:=by
 rcases Nat.lt_or_ge k L.length with g|g
 ·exact en_stop (lk_at g) h
 ·exact en_end g
def sgn(L:List UInt8)(k:Nat):Nat:=if lk L k=45\/lk L k=43 then k+1 else k
theorem sgn_le(h:k<=L.length):k<=sgn L k/\sgn L k<=L.length:=by
 unfold sgn;split
 ·rename_i g
  have:k<L.length:=by
   rcases g with g|g
   ·exact lk_lt (by decide) g
   ·exact lk_lt (by decide) g
  omega
 ·omega
def frc(L:List UInt8)(k:Nat):Bool:=lk L k==46 && isD (lk L (k+1))
def q1(L:List UInt8)(p:Nat):Nat:=if lk L p=48 then p+1 else en isD L (p+1)
def q2(L:List UInt8)(a:Nat):Nat:=if frc L a=true then en isD L (a+1)else a
theorem q1_le(h:p<L.length):p<q1 L p/\q1 L p<=L.length:=by
 unfold q1;split
 ·omega
 ·have:=en_ge isD L (p+1);have:=en_le isD L (p+1) h;omega
theorem q2_le{a:Nat}(h:a<=L.length):a<=q2 L a/\q2 L a<=L.length:=by
 unfold q2;split
 ·rename_i g
  have:a<L.length:=by
   unfold frc at g;simp at g;exact lk_lt (by decide) g.1
  have h2:=en_ge isD L (a+1);have:=en_le isD L (a+1) this;omega
 ·omega
inductive Nb (L:List UInt8) (p:Nat):Bool->Bool->Nat->Prop
 |plain:frc L (q1 L p)=false->lk L (q1 L p)≠101->Nb L p false true (q1 L p)
 |frac:frc L (q1 L p)=true->lk L (q2 L (q1 L p))≠101->Nb L p false false (q2 L (q1 L p))
 |bad:lk L (q2 L (q1 L p))=101->isD (lk L (sgn L (q2 L (q1 L p)+1)))=false->Nb L p true false (sgn L (q2 L (q1 L p)+1))
 |exp:lk L (q2 L (q1 L p))=101->isD (lk L (sgn L (q2 L (q1 L p)+1)))=true->Nb L p false false (en isD L (sgn L (q2 L (q1 L p)+1)))
theorem nb_any(L:List UInt8)(p:Nat):∃b c to,Nb L p b c to:=by
 by_cases h:lk L (q2 L (q1 L p))=101
 ·cases g:isD (lk L (sgn L (q2 L (q1 L p)+1)))with
  |true=>exact⟨_,_,_,.exp h g⟩
  |false=>exact⟨_,_,_,.bad h g⟩
 ·cases g:frc L (q1 L p)with
  |true=>exact⟨_,_,_,.frac g h⟩
  |false=>exact⟨_,_,_,.plain g (by unfold q2 at h;rw[g,if_neg (by decide)]at h;exact h)⟩
theorem Nb.le{b c:Bool}{to:Nat}(h:Nb L p b c to)(hp:p<L.length):p<to/\to<=L.length:=by
 have h1:=q1_le hp;have h2:=q2_le (L:=L) h1.2;cases h with
 |plain=>exact h1
 |frac=>omega
 |bad g _=>
  have:=lk_lt (by decide) g;have:=sgn_le (L:=L) (k:=q2 L (q1 L p)+1) this;omega
 |exp g _=>
  have:=lk_lt (by decide) g;have:=sgn_le (L:=L) (k:=q2 L (q1 L p)+1) this;have h4:=en_le isD L _ this.2;have h5:=en_ge isD L (sgn L (q2 L (q1 L p)+1));omega
def nm:Nat->List UInt8->Option Nat
 |acc,[]=>some acc
 |acc,c::r=>if 922337203685477580<acc\/(acc=922337203685477580/\55<c.toNat)then none else nm (acc*10+(c.toNat-48)) r
def dg(L:List UInt8)(p to:Nat):List UInt8:=(L.drop p).take (to-p)
theorem dg_step{i to:Nat}(h:L[i]? =some x)(hi:i<to):dg L i to=x::dg L (i+1) to:=by
 unfold dg;rw[drop_cons h,show to-i=(to-(i+1))+1 by omega,List.take_succ_cons]
theorem dg_end(L:List UInt8)(i:Nat):dg L i i=[]:=by unfold dg;simp
inductive Num (T:ByteArray) (L:List UInt8) (p:Nat):Int->Nat->Int->ByteArray->Prop
 |bad (to:Nat):Nb L p true false to->Num T L p 0 to 0 ⟨#[]⟩
 |flt (to:Nat):Nb L p false false to->Num T L p 3 to 0 (T.extract p to)
 |int (to v:Nat):Nb L p false true to->nm 0 (dg L p to)=some v->Num T L p 2 to (v:Int) ⟨#[]⟩
 |big (to:Nat):Nb L p false true to->nm 0 (dg L p to)=none->Num T L p 3 to 0 (T.extract p to)
theorem num_any(T:ByteArray)(L:List UInt8)(p:Nat):∃k to n x,Num T L p k to n x:=by
 obtain⟨b,c,to,h⟩:=nb_any L p;cases b with
 |true=>
  cases c with
  |true=>cases h
  |false=>exact⟨_,_,_,_,.bad to h⟩
 |false=>
  cases c with
  |false=>exact⟨_,_,_,_,.flt to h⟩
  |true=>
   cases g:nm 0 (dg L p to)with
   |none=>exact⟨_,_,_,_,.big to h g⟩
   |some v=>exact⟨_,_,_,_,.int to v h g⟩
theorem nm_lt:∀(D:List UInt8) (acc v:Nat),acc<9223372036854775808->(∀c ∈ D,isD c=true)->nm acc D=some v->acc*10 ^ D.length<=v/\v<9223372036854775808
 | [],acc,v,h,_,e=>by simp[nm]at e;subst e;simp;exact h
 |c::r,acc,v,h,hd,e=>by
  unfold nm at e;split at e
  ·cases e
  ·rename_i g
   have hc:=hd c (List.mem_cons_self ..);unfold isD at hc;simp at hc;have hacc:acc*10+(c.toNat-48)<9223372036854775808:=by omega
   obtain⟨h1,h2⟩:=nm_lt r _ v hacc (λx hx=>hd x (List.mem_cons_of_mem _ hx)) e;refine⟨?_,h2⟩;rw[List.length_cons,Nat.pow_succ,Nat.mul_comm (10 ^ r.length) 10,<-Nat.mul_assoc];exact Nat.le_trans (Nat.mul_le_mul_right _ (Nat.le_add_right _ _)) h1
theorem Nb.digits{to:Nat}(h:Nb L p false true to)(hd:isD (lk L p)=true):∀i,p<=i->i<to->isD (lk L i)=true:=by
 intro i h1 h2;cases h with
 |plain g1 g2=>
  unfold q1 at h2;split at h2
  ·obtain rfl:i=p:=by omega
   exact hd
  ·by_cases e:i=p
   ·subst e;exact hd
   ·obtain⟨x,hx,hp⟩:=en_mid (p:=isD) (L:=L) (en isD L (p+1)-(p+1)) (p+1) i (by have:=en_ge isD L (p+1);omega) (by omega) (by omega);rw[lk_some hx];exact hp
inductive Fin10 (T:ByteArray) (L:List UInt8) (p to:Nat):Int->Int->Int->ByteArray->Prop
 |flt:Fin10 T L p to 3 3 0 (T.extract p to)
 |int (v:Nat):(∀i,p<=i->i<to->isD (lk L i)=true)->nm 0 (dg L p to)=some v->Fin10 T L p to 2 2 (v:Int) ⟨#[]⟩
 |big:(∀i,p<=i->i<to->isD (lk L i)=true)->nm 0 (dg L p to)=none->Fin10 T L p to 2 3 0 (T.extract p to)
theorem digit_nat(h:isD x=true):48<=x.toNat/\x.toNat<=57:=by unfold isD at h;simpa using h
structure Ts (w:World) (k f t n:Int) (x:ByteArray) (W:World):Prop where
 bel:Below w.heap.size w W
 tb:W.heap[w.heap.size]? =some (.cells #[.int .i64 k,.int .i64 f,.int .i64 t,.int .i64 0,.int .i64 n,.string x] 125 (0,0))
 rz:Rz (w.heap.size+1) W
section
variable {w W:World} {k f t n:Int} {x:ByteArray}
theorem Ts.start(w:World)(k f t n:Int)(x:ByteArray):Ts w k f t n x ((w.alloc (.cells #[.int .i64 k,.int .i64 f,.int .i64 t,.int .i64 0,.int .i64 n,.string x] 125)).alloc (.cells #[.int .i64 0,.int .i64 0,.int .i64 0,.int .i64 0,.int .i64 0,.string ⟨#[]⟩] 125)):=by
 refine⟨((Below.refl _ w).alloc (Nat.le_refl _) _).alloc (by simp) _,?_,?_⟩
 ·rw[Below.heap_alloc _ _ _ (by simp)];show(w.heap.push _)[w.heap.size]? =_;simp
 ·unfold Rz;show((w.heap.push _).push _)[w.heap.size+1]? =_;rw[Array.getElem?_push,if_pos (by simp)]
theorem Ts.c0(h:Ts w k f t n x W):W.cell? ⟨w.heap.size,0,none⟩=some (.int .i64 k):=by simp[World.cell?,h.tb]
theorem Ts.c1(h:Ts w k f t n x W):W.cell? ⟨w.heap.size,1,none⟩=some (.int .i64 f):=by simp[World.cell?,h.tb]
theorem Ts.c2(h:Ts w k f t n x W):W.cell? ⟨w.heap.size,2,none⟩=some (.int .i64 t):=by simp[World.cell?,h.tb]
theorem Ts.c3(h:Ts w k f t n x W):W.cell? ⟨w.heap.size,3,none⟩=some (.int .i64 0):=by simp[World.cell?,h.tb]
theorem Ts.c4(h:Ts w k f t n x W):W.cell? ⟨w.heap.size,4,none⟩=some (.int .i64 n):=by simp[World.cell?,h.tb]
theorem Ts.c5(h:Ts w k f t n x W):W.cell? ⟨w.heap.size,5,none⟩=some (.string x):=by simp[World.cell?,h.tb]
theorem Ts.fz(h:Ts w k f t n x W)(j:Nat):W.frozen? ⟨w.heap.size,j,none⟩=false:=by simp[World.frozen?,h.tb]
theorem Ts.setx(h:Ts w k f t n x W)(j:Nat)(v:Value):Below w.heap.size w (W.setCell ⟨w.heap.size,j,none⟩ v)/\Rz (w.heap.size+1) (W.setCell ⟨w.heap.size,j,none⟩ v):=
 ⟨h.bel.setCell (Nat.le_refl _) _,by unfold Rz;rw[Below.heap_setCell _ _ _ _ (show w.heap.size+1≠w.heap.size by omega)];exact h.rz⟩
theorem Ts.set0(h:Ts w k f t n x W)(y:Int):Ts w y f t n x (W.setCell ⟨w.heap.size,0,none⟩ (.int .i64 y)):=⟨(h.setx _ _).1,by simp[World.setCell,Array.getElem?_modify,h.tb],(h.setx _ _).2⟩
theorem Ts.set2(h:Ts w k f t n x W)(y:Int):Ts w k f y n x (W.setCell ⟨w.heap.size,2,none⟩ (.int .i64 y)):=⟨(h.setx _ _).1,by simp[World.setCell,Array.getElem?_modify,h.tb],(h.setx _ _).2⟩
theorem Ts.set4(h:Ts w k f t n x W)(y:Int):Ts w k f t y x (W.setCell ⟨w.heap.size,4,none⟩ (.int .i64 y)):=⟨(h.setx _ _).1,by simp[World.setCell,Array.getElem?_modify,h.tb],(h.setx _ _).2⟩
theorem Ts.set5(h:Ts w k f t n x W)(y:ByteArray):Ts w k f t n y (W.setCell ⟨w.heap.size,5,none⟩ (.string y)):=⟨(h.setx _ _).1,by simp[World.setCell,Array.getElem?_modify,h.tb],(h.setx _ _).2⟩
end
theorem st6_bel{m b:Nat}{w W:World}(h:Below m w W)(hb:m<=b)(a1 a2 a3 a4 a5 a6:Value):Below m w (st6 W b a1 a2 a3 a4 a5 a6):=by
 unfold st6;exact(((((h.setCell hb _).setCell hb _).setCell hb _).setCell hb _).setCell hb _).setCell hb _
theorem sign_mv(L:List UInt8)(hT:T.data.toList=L)(hlen:T.size<=65536)(hk:k<=L.length)(w:World)(h:Sb B T k l st w):
    Calls Tryz.prog 171 #[.pointer (some ⟨B,0,none⟩)] w λe w'=>(∃z,e=.returned (.bool z))/\Mv B T (sgn L k:Nat) l st w w':=by
  have hs:T.size=L.length:=by rw[<-hT];simp
  by_cases h1:L[k]? =some 45
  · have e:sgn L k=k+1:=by unfold sgn;rw[if_pos (.inl (lk_some h1))]
    rw[e];have ht:=take_mv 45 45 rfl true (k+1) hlen (by omega) (by rw[hT];exact .inl ⟨h1,rfl,rfl⟩) w h;clear h e;go_enter Tryz.func171,Tryz.ntmps171;go_wp2_with fail;refine ht.mono ?_;rintro e w1 ⟨rfl,m1⟩;clear ht;go_wp2_with fail;go_ret;exact⟨⟨_,rfl⟩,m1⟩
  · have ht:=take_mv 45 45 rfl false k hlen (by omega) (by rw[hT];exact .inr ⟨h1,rfl,rfl⟩) w h;by_cases h2:L[k]? =some 43
    · have e:sgn L k=k+1:=by unfold sgn;rw[if_pos (.inr (lk_some h2))]
      rw[e];have ht2:=λw1 (m1:Mv B T (k:Int) l st w w1)=>take_mv (k:=k) 43 43 rfl true (k+1) hlen (by omega) (by rw[hT];exact .inl ⟨h2,rfl,rfl⟩) w1 m1.2;clear h e;go_enter Tryz.func171,Tryz.ntmps171;go_wp2_with fail;refine ht.mono ?_;rintro e w1 ⟨rfl,m1⟩;have hu:=ht2 w1 m1;clear ht ht2;go_wp2_with fail;refine hu.mono ?_;rintro e w2 ⟨rfl,m2⟩;clear hu;go_wp2_with fail;go_ret;exact⟨⟨_,rfl⟩,m1.trans m2⟩
    · have e : sgn L k = k := by
        unfold sgn;rw[if_neg];rintro(g|g)
        · exact h1 ((lk_iff (by decide)).1 g)
        · exact h2 ((lk_iff (by decide)).1 g)
      rw[e];have ht2:=λw1 (m1:Mv B T (k:Int) l st w w1)=>take_mv (k:=k) 43 43 rfl false k hlen (by omega) (by rw[hT];exact .inr ⟨h2,rfl,rfl⟩) w1 m1.2;clear h e;go_enter Tryz.func171,Tryz.ntmps171;go_wp2_with fail;refine ht.mono ?_;rintro e w1 ⟨rfl,m1⟩;have hu:=ht2 w1 m1;clear ht ht2;go_wp2_with fail;refine hu.mono ?_;rintro e w2 ⟨rfl,m2⟩;clear hu;go_wp2_with fail;go_ret;exact⟨⟨_,rfl⟩,m1.trans m2⟩
theorem sees_in(p:ByteArray)(z:Bool)(hk:k<=T.size)(hz:pre T.data.toList k p.data.toList=z)(w:World)(h:Sb B T k l st w)(n:Nat):
  Calls Tryz.prog 158 #[.pointer (some ⟨B,0,none⟩),.string p] (w.drewN n) λe w'=>e=.returned (.bool z)/\∃m,w'=w.drewN m:=Calls.quiet_of (sees_run p z hk hz (w.drewN n) h)
theorem frac_mv(L:List UInt8)(hT:T.data.toList=L)(hlen:T.size<=65536)(hk:k<=L.length)(z:Bool)(hz:frc L k=z)(w:World)(h:Sb B T k l st w):
  Calls Tryz.prog 170 #[.pointer (some ⟨B,0,none⟩)] w λe w'=>e=.returned (.bool z)/\Mv B T (k:Int) l st w w':=by
 have hs:T.size=L.length:=by rw[<-hT];simp
 obtain⟨M,hM,hLM,hkM⟩:∃M:Int,M<=65536/\(L.length:Int)<=M/\(k:Int)<=M:=⟨L.length,by omega,Int.le_refl _,by omega⟩
 have hw:IntKind.i64.wrap ((k:Int)+1)=(k:Int)+1:=by simp only[IntKind.wrap,IntKind.bits,IntKind.signed];simp;omega
 have b0:=h.c0;have b1:=h.c1;have HS:Hid (∀n,Mv B T (k:Int) l st w (w.drewN n)):=(λn=>⟨(Kb.refl B w).drewN n,h⟩:∀n,Mv B T (k:Int) l st w (w.drewN n))
 by_cases h1:L[k]? =some 46
 ·have hse:=sees_in ⟨#[46]⟩ true (by omega) (by rw[hT];exact(pre_one L k 46).2 h1) w h;have hkl:k<L.length:=(List.getElem?_eq_some_iff.1 h1).1;by_cases h2:k+1<L.length
  ·have hx:=lk_at h2;have ez:isD (lk L (k+1))=z:=by rw[<-hz];unfold frc;rw[lk_some h1];simp
   have hd:=impl_isD (lk L (k+1));rw[ez]at hd;have hix:=ix T L hT (k+1) _ hx;rw[show((k+1:Nat):Int)=(k:Int)+1 by omega]at hix;have hlt:decide ((k:Int)+1<(L.length:Int))=true:=by simp;omega
   clear h ez hx hz h1 h2 hT;generalize ((lk L (k+1)).toNat:Int)=xi at*;go_enter Tryz.func170,Tryz.ntmps170;go_wp2_with fail
   go_quiet ((first|(go_at_call 158;exact hse _)|(go_at_call 161;exact Calls.quiet_of_same (hd _))))
   go_wp2_with fail;go_ret;exact⟨rfl,(uh HS) _⟩
  ·have ez:z=false:=by rw[<-hz];unfold frc;rw[lk_none (k:=k+1) (by omega),isD_zero];simp
   have hlt:decide ((k:Int)+1<(L.length:Int))=false:=by simp;omega
   subst ez;clear h hz h1 h2 hT;go_enter Tryz.func170,Tryz.ntmps170;go_wp2_with fail
   go_quiet ((first|(go_at_call 158;exact hse _)))
   go_wp2_with fail;go_ret;exact⟨rfl,(uh HS) _⟩
 ·have hse:=sees_in ⟨#[46]⟩ false (by omega) (by rw[hT,Bool.eq_false_iff];intro g;exact h1 ((pre_one L k 46).1 g)) w h
  have ez:z=false:=by
   rw[<-hz];unfold frc;have:(lk L k==46)=false:=by simp;intro g;exact h1 ((lk_iff (by decide)).1 g)
   rw[this];rfl
  subst ez;clear h hz h1 hT;go_enter Tryz.func170,Tryz.ntmps170;go_wp2_with fail
  go_quiet ((first|(go_at_call 158;exact hse _)))
  go_wp2_with fail;go_ret;exact⟨rfl,(uh HS) _⟩
end Go.Proofs.YtkhdehngobkkfaaGreatDoor
namespace Go.Proofs.YtkhdehngobkkfaaGreatDoor.Rd
open Go.ChangeShapes Go.WideShapes Go.ChangeAt Go.RowKit Go.Proofs.YtkhdehngobkkfaaGreatDoor
set_option linter.unusedVariables false
theorem uint_16(T:ByteArray)(L:List UInt8)(hT:T.data.toList=L)(hlen:L.length<=1200)(hd:∀c ∈ L,dv c<16)(hne:0<L.length)(w:World):
  Calls Tryz.prog 180 #[.string T,.int .i64 16,.int .i64 64] w λe w'=>e=.returned (unt (rd 16 0 L))/\w'=Lib.bytesWorld w 5 T:=by
 have hsz:T.size=L.length:=by rw[<-hT];simp
 have hemp:=empT T (by omega);have hcv:=Lib.run_convert_string_bytes (P:=Tryz.prog) w 9 38 5 T (u:=.string) Tryz.underlying9 Tryz.underlying38 Tryz.underlying5
 have hB:∀j c,L[j]? =some c->(Lib.bytesWorld w 5 T).cell? ⟨w.heap.size,j,none⟩=some (.int .u8 c.toNat):=λj c hj=>by
  have hlt:j<L.length:=(List.getElem?_eq_some_iff.1 hj).1;rw[Lib.bytesWorld_cell w 5 T j (by omega),hT,List.getD,hj];rfl
 obtain⟨W1,hW1⟩:∃W1,W1=Lib.bytesWorld w 5 T:=⟨_,rfl⟩
 rw[<-hW1]at hcv hB⊢;clear hW1 hT
 have hmv:IntKind.u64.wrap (IntKind.u64.wrap 18446744073709551616-1)=18446744073709551615:=by
  rw[IntKind.wrap_u64,IntKind.wrap_u64];decide
 go_enter Tryz.func180,Tryz.ntmps180;go_wp2;clear hcv hmv hemp
 go_loop [12,13,101] (λvu vn vi=>∃(k acc:Nat) (a:Int),vu=.bool false/\vn=.int .u64 a/\vi=.int .i64 k/\k<=L.length/\Hid (a=(acc:Int)/\acc<18446744073709551616/\rd 16 0 L=rd 16 acc (L.drop k)))
  (λ_ _ vi=>L.length-(intOf vi).toNat)
 case atStart=>exact⟨0,0,0,rfl,rfl,rfl,by omega,(⟨rfl,by omega,rfl⟩:(0:Int)=((0:Nat):Int)/\0<18446744073709551616/\rd 16 0 L=rd 16 0 (L.drop 0))⟩
 case round=>
  obtain⟨k,acc,a,rfl,rfl,rfl,hk,hh⟩:=hrel;obtain⟨ha,hacc,hdec⟩:=(show a=(acc:Int)/\acc<18446744073709551616/\rd 16 0 L=rd 16 acc (L.drop k)from hh)
  clear hh;have g0:0<=a:=by omega
  have g00:a<=18446744073709551615:=by omega
  by_cases hkn:k<L.length
  ·have hdrop:L.drop k=L[k]::L.drop (k+1):=List.drop_eq_getElem_cons hkn;have hc:=hB k L[k] (List.getElem?_eq_getElem hkn);have hdl:=hd L[k] (List.getElem_mem hkn);rw[hdrop]at hdec;generalize L[k]=c at hc hdl hdec;have hc256:(c.toNat:Int)<256:=by have:=c.toNat_lt;omega
   clear hB hd hdrop;obtain⟨q,p,f1,f2,f3,f4,f5,f6⟩:=acc_facts 16 acc (dv c) (by omega) hdl;rw[<-ha]at f2
   have hkind:(48<=(c.toNat:Int)/\(c.toNat:Int)<=57/\(dv c:Int)=(c.toNat:Int)-48)\/(97<=(c.toNat:Int)/\(c.toNat:Int)<=122/\(dv c:Int)=(c.toNat:Int)-97+10/\bits .or .u8 (c.toNat:Int) 32=(c.toNat:Int)):=by
    unfold dv at hdl⊢;split at hdl
    ·rename_i hh;rw[if_pos hh];left;omega
    ·rename_i hh
     rw[if_neg hh];split at hdl
     ·rename_i hh2;rw[if_pos hh2];right;exact⟨by omega,by omega,by omega,low_at _ hh2.1 hh2.2⟩
     ·omega
   have g3:(dv c:Int)<16:=by omega
   have g4:(0:Int)<=(dv c:Int):=by omega
   have fq:q=1152921504606846975:=by rw[<-f1];decide
   by_cases hover:acc*16+dv c<18446744073709551616
   ·have hF:rd 16 acc (c::L.drop (k+1))=rd 16 (acc*16+dv c) (L.drop (k+1)):=by simp[rd,hover]
    have HN:Hid (p+(dv c:Int)=((acc*16+dv c:Nat):Int)/\acc*16+dv c<18446744073709551616/\rd 16 0 L=rd 16 (acc*16+dv c) (L.drop (k+1))):=
     (⟨by omega,hover,hdec.trans hF⟩:p+(dv c:Int)=((acc*16+dv c:Nat):Int)/\acc*16+dv c<18446744073709551616/\rd 16 0 L=rd 16 (acc*16+dv c) (L.drop (k+1)))
    have g1:¬q<a:=by rw[ha];intro h;have:=f5 h;omega
    have g2:p+(dv c:Int)<=18446744073709551615:=by omega
    have g5:¬1152921504606846976<=a:=by omega
    clear f3 f5 f6 hF hdec hacc hover ha hdl f1 fq;rcases hkind with⟨i1,i2,i3⟩|⟨i1,i2,i3,i4⟩
    ·rw[i3]at g2 g3 g4 HN;clear i3;generalize (c.toNat:Int)=n at*;go_wp2
     all_goals exact⟨⟨k+1,acc*16+dv c,p+(n-48),rfl,(by first|rfl|(congr 1;omega)),(by first|rfl|(congr 1;omega)),by omega,HN⟩,by simp[intOf];omega⟩
    ·rw[i3]at g2 g3 g4 HN;clear i3;generalize (c.toNat:Int)=n at*;go_wp2
     all_goals exact⟨⟨k+1,acc*16+dv c,p+(n-97+10),rfl,(by first|rfl|(congr 1;omega)),(by first|rfl|(congr 1;omega)),by omega,HN⟩,by simp[intOf];omega⟩
   ·have hF:rd 16 acc (c::L.drop (k+1))=none:=by simp[rd,hover]
    have HE:Hid (rd 16 0 L=none):=(hdec.trans hF:rd 16 0 L=none)
    by_cases hqa:q<a
    ·have g5:1152921504606846976<=a:=by omega
     clear f3 f5 f6 hF hdec hacc hover ha hdl f1 fq;rcases hkind with⟨i1,i2,i3⟩|⟨i1,i2,i3,i4⟩
     all_goals
      rw[i3]at g3 g4;clear i3;generalize (c.toNat:Int)=n at*;go_wp2
      all_goals
       go_ret2;refine⟨?_,rfl⟩;rw[show rd 16 0 L=none from HE];rfl
    ·have g1:p<=18446744073709551615:=f6 (by omega);have g2:18446744073709551616<=p+(dv c:Int):=by omega
     have g6:¬1152921504606846976<=a:=by omega
     have g5:IntKind.u64.wrap (p+(dv c:Int))=p+(dv c:Int)-18446744073709551616:=by rw[IntKind.wrap_u64];omega
     clear f3 f5 f6 hF hdec hacc hover ha hdl hqa f1 fq;rcases hkind with⟨i1,i2,i3⟩|⟨i1,i2,i3,i4⟩
     all_goals
      rw[i3]at g2 g3 g4 g5;clear i3;generalize (c.toNat:Int)=n at*;go_wp2
      all_goals
       go_ret2;refine⟨?_,rfl⟩;rw[show rd 16 0 L=none from HE];rfl
  ·have hkk:k=L.length:=by omega
   subst hkk;have hF:rd 16 acc (L.drop L.length)=some acc:=by rw[List.drop_eq_nil_of_le (by omega)];rfl
   have HE:Hid (rd 16 0 L=some acc):=(hdec.trans hF:rd 16 0 L=some acc)
   subst ha;clear hacc hF hdec hB hd;go_wp2;go_ret2;refine⟨?_,rfl⟩;rw[show rd 16 0 L=some acc from HE];rfl
end Go.Proofs.YtkhdehngobkkfaaGreatDoor.Rd
namespace Go.Proofs.YtkhdehngobkkfaaGreatDoor
open Go.ChangeShapes Go.WideShapes Go.ChangeAt Go.RowKit
set_option linter.unusedVariables false
variable {p k:Nat}{L:List UInt8}{c:UInt8}
theorem syn_err(fn s:ByteArray)(hC:∀w,Calls Tryz.prog 175 #[.string s] w λe w'=>e=.returned (.string s)/\Below w.heap.size w w')(te:TypeId)(pe:Value)(w:World)(hv:w.cell? ⟨10,0,none⟩=some (.iface te pe)):
    Calls Tryz.prog 185 #[.string fn,.string s] w λe w'=>(∃a,e=.returned (.pointer (some a)))/\Below w.heap.size w w':=by
  have hG:10<w.heap.size:=Rd.lt_of_cell hv;have hvd:w.drew.cell? ⟨10,0,none⟩=some (.iface te pe):=hv;go_enter Tryz.func185,Tryz.ntmps185;go_wp2
  go_region_with (
      go_at_call 175
      refine(hC _).mono ?_;rintro e w2 ⟨rfl,hbel⟩
      have hv2:w2.cell? ⟨10,0,none⟩=some (.iface te pe):=(hbel.cell (show 10<w.drew.heap.size from hG)).trans hvd)
  all_goals (
    go_wp2;go_ret;have hs2:w.heap.size<=w2.heap.size:=hbel.size
    exact⟨⟨_,rfl⟩,((Below.drew (Below.refl _ w)).trans hbel).alloc hs2 _⟩)
theorem eql22(W:World):(binOp .eql 87 (.iface 214 (.int .i64 2)) (.iface 214 (.int .i64 2))).run Tryz.prog W=.ok (.bool true) W:=
 Lib.run_eql_iface_int W 2 2 Tryz.underlying87 (by kernel_rfl) Tryz.underlying214
theorem to_err2(fn s:ByteArray)(b c:Int)(hC:∀w,Calls Tryz.prog 175 #[.string s] w λe w'=>e=.returned (.string s)/\Below w.heap.size w w')(te:TypeId)(pe:Value)(w:World)(hv:w.cell? ⟨10,0,none⟩=some (.iface te pe)):
  Calls Tryz.prog 181 #[.string fn,.string s,.int .i64 b,.int .i64 c,.iface 214 (.int .i64 2)] w λe w'=>(∃t v,e=.returned (.iface t v))/\Below w.heap.size w w':=by
 have h35:=syn_err fn s hC te pe w hv;have hq22:=eql22;clear hC hv;go_enter Tryz.func181,Tryz.ntmps181;go_wp2_with fail;refine h35.mono ?_;rintro e w2 ⟨⟨a,rfl⟩,hb⟩;clear h35;go_wp2_with fail;go_ret;exact⟨⟨_,_,rfl⟩,hb⟩
theorem uint_none(w:World):Calls Tryz.prog 180 #[.string ⟨#[]⟩,.int .i64 16,.int .i64 64] w λe w'=>e=.returned (.tuple #[.int .u64 0,.iface 214 (.int .i64 2)])/\w'=w:=by
 go_enter Tryz.func180,Tryz.ntmps180;go_wp2_with fail;go_ret2;exact⟨rfl,rfl⟩
theorem pu_none(te:TypeId)(pe:Value)(w:World)(hv:w.cell? ⟨10,0,none⟩=some (.iface te pe)):
  Calls Tryz.prog 176 #[.string ⟨#[]⟩,.int .i64 16,.int .i64 64] w λe w'=>(∃t v,e=.returned (.tuple #[.int .u64 0,.iface t v]))/\Below w.heap.size w w':=by
 have h27:=uint_none w;have h28:=λfn=>to_err2 fn ⟨#[]⟩ 16 64 (λw=>lite_clone _ w (show(0:Nat)<=_ from Nat.zero_le _)) te pe w hv;clear hv;go_enter Tryz.func176,Tryz.ntmps176;go_wp2_with fail;refine h27.mono ?_;rintro e w2 ⟨rfl,rfl⟩;clear h27;go_wp2_with fail;refine(h28 _).mono ?_;rintro e w3 ⟨⟨t,v,rfl⟩,hb2⟩;clear h28;go_wp2_with fail;go_ret2;exact⟨⟨_,_,rfl⟩,hb2⟩
theorem pu_some(S:ByteArray)(D:List UInt8)(hS:S.data.toList=D)(hlen:D.length<=1200)(hd:∀c ∈ D,Rd.dv c<16)(hne:0<D.length)(v:Nat)(hv:Rd.rd 16 0 D=some v)(w:World):
  Calls Tryz.prog 176 #[.string S,.int .i64 16,.int .i64 64] w λe w'=>e=.returned (.tuple #[.int .u64 v,.nilIface])/\Below w.heap.size w w':=by
 have h27:=Rd.uint_16 S D hS hlen hd hne w;rw[hv]at h27;unfold Rd.unt at h27;have hb:=Lib.bytesWorld_below w 5 S;clear hv hd;go_enter Tryz.func176,Tryz.ntmps176;go_wp2_with fail;refine h27.mono ?_;rintro e w2 ⟨rfl,rfl⟩;clear h27;go_wp2_with fail;go_ret2;exact⟨rfl,hb⟩
theorem rd_some16:∀(D:List UInt8) (acc m:Nat),acc<16 ^ m->m+D.length<=16->(∀c ∈ D,Rd.dv c<16)->∃v,Rd.rd 16 acc D=some v/\v<16 ^ (m+D.length)
 | [],acc,m,h,_,_=>⟨acc,rfl,by simpa using h⟩
 |c::r,acc,m,h,hl,hd=>by
  have hc:=hd c (List.mem_cons_self ..);have h1:acc*16+Rd.dv c<16 ^ (m+1):=by rw[Nat.pow_succ];omega
  have h2:16 ^ (m+1)<=16 ^ 16:=Nat.pow_le_pow_right (by omega) (by simp at hl;omega);have h3:(16:Nat)^ 16=18446744073709551616:=by decide
  obtain⟨v,e,hv⟩:=rd_some16 r (acc*16+Rd.dv c) (m+1) h1 (by simp at hl;omega) (λx hx=>hd x (List.mem_cons_of_mem _ hx));refine⟨v,?_,?_⟩
  ·rw[Rd.rd,if_pos (by omega)];exact e
  ·have:m+(c::r).length=m+1+r.length:=by simp;omega
   rw[this];exact hv
theorem run_mem{p:UInt8->Bool}(h:c ∈ (L.drop k).take (en p L k-k)):p c=true:=by
 obtain⟨i,hi,e⟩:=List.getElem_of_mem h;have hl:=hi;rw[List.length_take]at hl;have hk:i<en p L k-k:=by omega
 have:=en_mid (p:=p) (L:=L) (en p L k-k) k (k+i) (by have:=en_ge p L k;omega) (by omega) (by omega);obtain⟨x,hx,hp⟩:=this
 have e2:((L.drop k).take (en p L k-k))[i]? =some x:=by
  rw[List.getElem?_take,if_pos hk,List.getElem?_drop];exact hx
 rw[List.getElem?_eq_getElem hi,e]at e2;rw[Option.some.inj e2];exact hp
inductive Hx (L:List UInt8) (p:Nat):Bool->Nat->Int->Prop
 |none:en (dgb 16) L (p+2)=p+2->Hx L p false (p+2) 0
 |many:p+18<en (dgb 16) L (p+2)->Hx L p false (p+18) 0
 |some (e v:Nat):en (dgb 16) L (p+2)=e->p+2<e->e<=p+18->Rd.rd 16 0 ((L.drop (p+2)).take (e-(p+2)))=some v->Hx L p true e (wrap64 (v:Int))
theorem hx_any(L:List UInt8)(p:Nat)(hp:p+2<=L.length):∃ok to n,Hx L p ok to n:=by
  have hg:=en_ge (dgb 16) L (p+2);by_cases h1:en (dgb 16) L (p+2)=p+2
  · exact⟨_,_,_,.none h1⟩
  · by_cases h2:p+18<en (dgb 16) L (p+2)
    · exact⟨_,_,_,.many h2⟩
    · obtain ⟨v, hv, _⟩ := rd_some16 ((L.drop (p + 2)).take (en (dgb 16) L (p + 2) - (p + 2))) 0 0 (by decide) (by rw [List.length_take]; omega) (fun c hc => by
        have:=run_mem hc;rw[Rd.dv_dw _ _ (by decide)];unfold dgb at this
        simpa using this)
      exact⟨_,_,_,.some _ v rfl (by omega) (by omega) hv⟩
theorem impl_hex{B:Nat}{T:ByteArray}(L:List UInt8)(hT:T.data.toList=L){l:Int}{st:Bool}(hlen:T.size<=65536)(hk:k+2<=L.length)(hB:12<=B){ok:Bool}{to:Nat}{n:Int}(hr:Hx L k ok to n)(kd:Int)(hkd:kd=if ok=true then 2 else 0)(w:World)(hg:Gd w)(h:Sb B T k l st w):
  Calls Tryz.prog 168 #[.pointer (some ⟨B,0,none⟩)] w λe w'=>e=.returned (tokV kd 0 0 0 n ⟨#[]⟩)/\Mv B T (to:Int) l st w w':=by
 have hs:T.size=L.length:=by rw[<-hT];simp
 obtain⟨M,hM,hLM⟩:∃M:Int,M<=65536/\(L.length:Int)<=M:=⟨L.length,by omega,Int.le_refl _⟩
 have hkM:(k:Int)+2<=M:=by omega
 have hBlt:B<w.heap.size:=h.lt;have hnB:w.heap.size≠B:=by omega
 have hz:=Mz.start h;have hgz:Gd (w.alloc (.cells #[.int .i64 0,.int .i64 0,.int .i64 0,.int .i64 0,.int .i64 0,.string ⟨#[]⟩] 125)):=hg.kb hB hz.1.1;have c1:=h.c1;have f1:=h.fz 1;have hz2:=Mz.start1 h ((k:Int)+2);have d1:=hz2.1.2.c1;obtain⟨W,hWe,HS⟩:∃W,W=(w.setCell ⟨B,1,none⟩ (.int .i64 ((k:Int)+2))).alloc (.cells #[.int .i64 0,.int .i64 0,.int .i64 0,.int .i64 0,.int .i64 0,.string ⟨#[]⟩] 125)/\Hid (Mz B w.heap.size T ((k+2:Nat):Int) l st w W):=⟨_,rfl,hz2⟩
 have hdg:=impl_digits L hT (k:=k+2) 16 (by decide) hlen hk W HS.1.2;obtain⟨e,he⟩:∃e,en (dgb 16) L (k+2)=e:=⟨_,rfl⟩
 rw[he]at hdg;have hel:e<=L.length:=by rw[<-he];exact en_le _ _ _ hk
 have heg:k+2<=e:=by rw[<-he];exact en_ge _ _ _
 obtain⟨S,hSe⟩:∃S,T.extract (k+2) e=S:=⟨_,rfl⟩
 rw[hSe]at hdg;have hSl:S.data.toList=(L.drop (k+2)).take (e-(k+2)):=by rw[<-hSe,ext_list,hT]
 have hSz:S.size=e-(k+2):=by
  have:S.data.toList.length=e-(k+2):=by rw[hSl,List.length_take,List.length_drop];omega
  simpa using this
 have HG:Hid (Gd w):=hg;have HB9:Hid (12<=B):=hB;cases hr with
 |none h1=>
  have e0:e=k+2:=by omega
  have hS0:S=⟨#[]⟩:=by
   rw[e0,Nat.sub_self,List.take_zero]at hSl;cases S with
   |mk a=>rw[show a=#[]from Array.toList_eq_nil_iff.1 hSl]
  subst hS0;rw[if_neg (by decide)]at hkd;subst hkd;subst e0;clear hT hlen hg h hz hgz hz2 hSe hSl hSz he h1 hel heg hB;go_enter Tryz.func168,Tryz.ntmps168;go_wp2_with fail;rw[<-hWe];clear hWe c1 f1 d1;refine hdg.mono ?_;rintro en w1 ⟨rfl,m1⟩;have hq1:=HS.trans m1 hnB;have hgw:Gd w1:=(uh HG).kb HB9 hq1.1.1;obtain⟨te,pe,h8⟩:=hgw.err6;have hpu:=pu_none te pe w1 h8;have HQ1:Hid (Mz B w.heap.size T ((k+2:Nat):Int) l st w w1):=hq1;clear hdg HS m1 hq1 hgw h8;go_wp2_with fail;refine hpu.mono ?_;rintro en w2 ⟨⟨t,v,rfl⟩,hb⟩;have hq:=(uh HQ1).trans (Mv.below HQ1.1.2 hb (Nat.le_refl _)) hnB;clear hpu HQ1 hb;have z3:=hq.2;obtain⟨g0,g1,g2,g3,g4,g5,y0,y1,y2,y3,y4,y5,e0,e1,e2,e3,e4,e5⟩:=z3.all;have HM4:Hid (Mv B T ((k+2:Nat):Int) l st w w2):=hq.1;clear hq z3;go_wp2_with fail;refine bodyPost_ret (by simp[results,Tryz.results168,go_sem,e0,e1,e2,e3,e4,e5];rfl) rfl ?_;exact⟨rfl,st6_mv HM4 (Nat.le_refl _) hnB _ _ _ _ _ _⟩
 |many h1=>
  have hI:(16:Int)<(S.size:Int):=by omega
  have hk18:(k:Int)+18<=M:=by omega
  rw[if_neg (by decide)]at hkd;subst hkd;clear hT hlen hg h hz hgz hz2 hSe hSl hSz he h1 heg hB;go_enter Tryz.func168,Tryz.ntmps168;go_wp2_with fail;rw[<-hWe];clear hWe c1 f1 d1;refine hdg.mono ?_;rintro en w1 ⟨rfl,m1⟩;have hq1:=HS.trans m1 hnB;have c1:=hq1.1.2.c1;have f1:=hq1.1.2.fz 1;have hq:=hq1.set1 hnB ((k:Int)+2+16);clear hdg HS m1 hq1;have z3:=hq.2;obtain⟨g0,g1,g2,g3,g4,g5,y0,y1,y2,y3,y4,y5,e0,e1,e2,e3,e4,e5⟩:=z3.all
  have HM4:Hid (Mv B T ((k+18:Nat):Int) l st w (w1.setCell ⟨B,1,none⟩ (.int .i64 ((k:Int)+2+16)))):=by
   have:=hq.1;rw[show((k+18:Nat):Int)=(k:Int)+2+16 by omega];exact this
  clear hq z3;go_wp2_with fail;refine bodyPost_ret (by simp[results,Tryz.results168,go_sem,e0,e1,e2,e3,e4,e5];rfl) rfl ?_;exact⟨rfl,st6_mv HM4 (Nat.le_refl _) hnB _ _ _ _ _ _⟩
 |some e' v h1 h2 h3 hv=>
  obtain rfl:e=to:=by omega
  have hI:¬(16:Int)<(S.size:Int):=by omega
  rw[if_pos rfl]at hkd;subst hkd
  have hpu:=pu_some S _ hSl (by rw[List.length_take];omega) (λc hc=>by
   rw[<-h1]at hc;have:=run_mem hc;rw[Rd.dv_dw _ _ (by decide)];unfold dgb at this
   simpa using this) (by rw[List.length_take,List.length_drop];omega) v hv
  clear hT hlen hg h hz hgz hz2 hSe hSl hSz he h1 hel heg hB h2 h3 hv;generalize (v:Int)=vi at*;go_enter Tryz.func168,Tryz.ntmps168;go_wp2_with fail;rw[<-hWe];clear hWe c1 f1 d1;refine hdg.mono ?_;rintro en w1 ⟨rfl,m1⟩;have hq1:=HS.trans m1 hnB;have HQ1:Hid (Mz B w.heap.size T (e:Int) l st w w1):=hq1;have hpu1:=hpu w1;clear hdg HS m1 hq1 hpu;go_wp2_with fail;refine hpu1.mono ?_;rintro en w2 ⟨rfl,hb⟩;have hq:=(uh HQ1).trans (Mv.below HQ1.1.2 hb (Nat.le_refl _)) hnB;clear hpu1 HQ1 hb;have z3:=hq.2;obtain⟨g0,g1,g2,g3,g4,g5,y0,y1,y2,y3,y4,y5,e0,e1,e2,e3,e4,e5⟩:=z3.all;have HM4:Hid (Mv B T (e:Int) l st w w2):=hq.1;clear hq z3;go_wp2_with fail;refine bodyPost_ret (by simp[results,Tryz.results168,go_sem,e0,e1,e2,e3,e4,e5];rfl) rfl ?_;exact⟨rfl,st6_mv HM4 (Nat.le_refl _) hnB _ _ _ _ _ _⟩
theorem first_bad (g:UInt8->Prop):∀R:List UInt8,(∀c ∈ R,g c)\/∃(i:Nat) (x:UInt8),R[i]? =some x/\¬g x/\∀j:Nat,j<i->∃y,R[j]? =some y/\g y
 | []=>Or.inl (λc hc=>by cases hc)
 |c::r=>by
  by_cases hc:g c
  ·rcases first_bad g r with h|⟨i,x,h1,h2,h3⟩
   ·left
    intro d hd;rcases List.mem_cons.1 hd with rfl|hd
    ·exact hc
    ·exact h d hd
   ·right
    refine⟨i+1,x,by simpa using h1,h2,λj hj=>?_⟩;cases j with
    |zero=>exact⟨c,rfl,hc⟩
    |succ j=>simpa using h3 j (by omega)
  ·right
   exact⟨0,c,rfl,hc,λj hj=>by omega⟩
theorem ext_emptyD(T:ByteArray)(j:Nat):T.extract j j=⟨#[]⟩:=by
 apply ByteArray.ext
 simp
theorem ext_someD(T:ByteArray)(j k:Nat)(h:j<k)(hk:k<=T.size):(T.extract j k).toList.isEmpty=false:=by
 apply Rd.empT
 have:(T.extract j k).size=k-j:=by
  rw[ByteArray.size_extract];omega
 omega
theorem dv_isD:Rd.dv c<10↔isD c=true:=by
 rw[Rd.dv_dw _ _ (by decide),<-dgb_ten];unfold dgb
 simp
theorem read10(T:ByteArray)(D:List UInt8)(hT:T.data.toList=D)(c:UInt8)(r:List UInt8)(hD:D=c::r)(hc:isD c=true)(hlen:T.size<=1200)(te:TypeId)(pe:Value)(w:World)(hv:w.cell? ⟨11,0,none⟩=some (.iface te pe)):
    Calls Tryz.prog 172 #[.string T,.int .i64 10] w λe w'=>e=.returned (Rd.whole (Rd.ansT 10 false D))/\Rd.Kept w w':=by
  have hd:=digit_nat hc;have hsz:T.size=D.length:=by rw[<-hT];simp
  have hx0:T.data.toList[0]? =some c:=by rw[hT,hD];rfl
  have H19:∀{w0:World} {A B:Nat} (w:World),Rd.Sc w0 A B T ((0:Nat):Int) w->Calls Tryz.prog 171 #[.pointer (some ⟨B,0,none⟩)] w λe w'=>(∃z,e=.returned (.bool z))/\Rd.Sc w0 A B T ((0:Nat):Int) w':=
    λw h=>Rd.sign_run hlen 0 (Or.inr (Or.inr (Or.inr ⟨c,hx0,by omega,by omega,rfl⟩))) w h
  rcases first_bad (λc=>Rd.dv c<10) D with hall|⟨i,x,h1,h2,h3⟩
  · have H20 : ∀ {w0 : World} {A B : Nat} (w : World), Rd.Sc w0 A B T ((0 : Nat) : Int) w → Calls Tryz.prog 169 #[.pointer (some ⟨B, 0, none⟩), .int .i64 ((10 : Nat) : Int)] w fun e w' => e = .returned (.string (T.extract 0 T.size)) ∧ Rd.Sc w0 A B T (T.size : Int) w' := by
      intro w0 A B w h;refine Rd.digits_run 10 (by decide) hlen 0 T.size zq (Nat.le_refl _) (λm hm1 hm2=>?_) (Or.inl rfl) w h;have hm3:m<T.data.toList.length:=by rw[hT];omega
      refine⟨T.data.toList[m],List.getElem?_eq_getElem hm3,?_⟩;rw[<-Rd.dv_dw _ 10 (by decide)];apply hall;rw[<-hT];exact List.getElem_mem hm3
    have hpos:0<D.length:=by rw[hD];simp
    exact Rd.impl_read_good 10 (by decide) (by decide) T hlen 0 T.size _ H19 H20 (ext_someD T 0 T.size (by omega) (Nat.le_refl _)) rfl _ (.iface te pe)
        (λW hW=>Rd.parse22 10 T _ (λw=>Rd.int_other 10 rfl (by decide) T T D D hT (by omega) hT rfl c r hD (by omega) (by omega) hall hpos w) (λw=>lite_clone T w (by omega)) te pe W hW) w hv
  · have hlt:i<T.size:=by have:=(List.getElem?_eq_some_iff.1 h1).1;omega
    have hbad:Rd.ansT 10 false D=(2,0):=Rd.ans_bad 10 false _ x (List.mem_iff_getElem?.2 ⟨i,h1⟩) h2;rw[hbad]
    have H20:∀{w0:World} {A B:Nat} (w:World),Rd.Sc w0 A B T ((0:Nat):Int) w->Calls Tryz.prog 169 #[.pointer (some ⟨B,0,none⟩),.int .i64 ((10:Nat):Int)] w λe w'=>e=.returned (.string (T.extract 0 i))/\Rd.Sc w0 A B T (i:Int) w':=by
      intro w0 A B w h;refine Rd.digits_run 10 (by decide) hlen 0 i (by omega) (by omega) (λm hm1 hm2=>?_) (Or.inr ⟨x,by rw[hT];exact h1,by rw[<-Rd.dv_dw _ 10 (by decide)];exact h2⟩) w h;obtain⟨y,hy1,hy2⟩:=h3 m hm2;exact⟨y,by rw[hT];exact hy1,by rw[<-Rd.dv_dw _ 10 (by decide)];exact hy2⟩
    by_cases hi:i=0
    · subst hi;exact Rd.impl_read_empty 10 (by decide) (by decide) T hlen 0 0 _ H19 H20 (ext_emptyD T 0) w
    · exact Rd.impl_read_bad 10 (by decide) (by decide) T hlen 0 i _ H19 H20 (ext_someD T 0 i (by omega) (by omega)) (by omega) w
theorem dv_digit(h:isD c=true):Rd.dv c=c.toNat-48:=by
 have:=digit_nat h;unfold Rd.dv;rw[if_pos this]
theorem nm_rd:∀(D:List UInt8) (acc v:Nat),acc<9223372036854775808->(∀c ∈ D,isD c=true)->nm acc D=some v->Rd.rd 10 acc D=some v
 | [],acc,v,h,_,e=>e
 |c::r,acc,v,h,hd,e=>by
  unfold nm at e;split at e
  ·cases e
  ·rename_i g
   have hc:=digit_nat (hd c (List.mem_cons_self ..));have hlt:acc*10+(c.toNat-48)<9223372036854775808:=by omega
   unfold Rd.rd;rw[dv_digit (hd c (List.mem_cons_self ..)),if_pos (by omega)];exact nm_rd r _ v hlt (λx hx=>hd x (List.mem_cons_of_mem _ hx)) e
theorem rd_ge:∀(D:List UInt8) (acc v:Nat),Rd.rd 10 acc D=some v->acc<=v
 | [],acc,v,e=>by rw[Option.some.inj e];exact Nat.le_refl _
 |c::r,acc,v,e=>by
  unfold Rd.rd at e;split at e
  ·have:=rd_ge r _ v e;omega
  ·cases e
theorem nm_no:∀(D:List UInt8) (acc:Nat),acc<9223372036854775808->(∀c ∈ D,isD c=true)->nm acc D=none->∀v,Rd.rd 10 acc D=some v->9223372036854775808<=v
 | [],acc,h,_,e=>by cases e
 |c::r,acc,h,hd,e=>by
  intro v hv;have hc:=digit_nat (hd c (List.mem_cons_self ..));unfold Rd.rd at hv;rw[dv_digit (hd c (List.mem_cons_self ..))]at hv;unfold nm at e;split at e
  ·rename_i g
   split at hv
   ·have:=rd_ge r _ v hv;omega
   ·cases hv
  ·rename_i g
   rw[if_pos (by omega)]at hv;exact nm_no r _ (by omega) (λx hx=>hd x (List.mem_cons_of_mem _ hx)) e v hv
theorem nm_len(c:UInt8)(r:List UInt8)(v:Nat)(hd:∀x ∈ c::r,isD x=true)(h:c≠48\/r=[])(e:nm 0 (c::r)=some v):(c::r).length<=1200:=by
 rcases h with h|h
 ·have hc:=digit_nat (hd c (List.mem_cons_self ..))
  have h1:1<=c.toNat-48:=by
   have:c.toNat≠48:=λg=>h (UInt8.toNat_inj.1 (show c.toNat=48 from g));omega
  unfold nm at e;rw[if_neg (by omega),Nat.zero_mul,Nat.zero_add]at e;have:=nm_lt r _ v (by omega) (λx hx=>hd x (List.mem_cons_of_mem _ hx)) e;rcases Nat.lt_or_ge r.length 100 with g|g
  ·simp;omega
  ·exfalso;have hp:(10:Nat)^ 100<=10 ^ r.length:=Nat.pow_le_pow_right (by decide) g;have h2:10 ^ r.length<=(c.toNat-48)*10 ^ r.length:=Nat.le_mul_of_pos_left _ (by omega);have h3:(9223372036854775808:Nat)<=10 ^ 100:=by decide
   omega
 ·subst h;simp
theorem dg_len{to:Nat}(h:to<=L.length):(dg L p to).length=to-p:=by unfold dg;rw[List.length_take,List.length_drop];omega
theorem dg_get{to i:Nat}(h:to<=L.length)(hi:p+i<to):(dg L p to)[i]? =some (lk L (p+i)):=by
 unfold dg;rw[List.getElem?_take,if_pos (by omega),List.getElem?_drop];exact lk_at (by omega)
theorem dg_all{to:Nat}(h:to<=L.length)(g:∀i,p<=i->i<to->isD (lk L i)=true):∀c ∈ dg L p to,isD c=true:=by
 intro c hc;obtain⟨i,hi,e⟩:=List.getElem_of_mem hc;rw[dg_len h]at hi;have:=dg_get (L:=L) (p:=p) (to:=to) (i:=i) h (by omega);rw[List.getElem?_eq_getElem (by rw[dg_len h];omega),e]at this;rw[Option.some.inj this];exact g _ (by omega) (by omega)
theorem read_num(T:ByteArray)(L:List UInt8)(hT:T.data.toList=L)(hlen:L.length<=65536)(p:Nat)(hd:isD (lk L p)=true){kd:Int}{to:Nat}{nu:Int}{tx:ByteArray}(hn:Num T L p kd to nu tx)(hk:kd≠0):
  ∃q:Int×Int,(∀(w:World) (te:TypeId) (pe:Value),w.cell? ⟨11,0,none⟩=some (.iface te pe)->Calls Tryz.prog 172 #[.string (T.extract p to),.int .i64 10] w λe w'=>e=.returned (Rd.whole q)/\Rd.Kept w w')/\
   ((kd=2/\q=(0,nu)/\tx=⟨#[]⟩)\/(kd=3/\q.1≠0/\nu=0/\tx=T.extract p to)):=by
 have hp:=isD_lt hd
 have hle:p<to/\to<=L.length:=by
  cases hn with
  |bad _ nb=>exact absurd rfl hk
  |flt _ nb=>exact nb.le hp
  |int _ v nb hv=>exact nb.le hp
  |big _ nb hv=>exact nb.le hp
 have hS:(T.extract p to).data.toList=dg L p to:=by rw[ext_list,hT];rfl
 have hSz:(T.extract p to).size=to-p:=by
  have hTs:T.size=L.length:=by rw[<-hT];simp
  rw[ByteArray.size_extract];omega
 have hcons:dg L p to=lk L p::dg L (p+1) to:=dg_step (lk_at hp) hle.1;by_cases hbig:1200<to-p
 ·refine⟨(1,0),λw te pe _=>Rd.impl_read_none 10 (T.extract p to) (Or.inr (Or.inr (by omega))) w,?_⟩
  right
  cases hn with
  |bad _ nb=>exact absurd rfl hk
  |flt _ nb=>exact⟨rfl,by decide,rfl,rfl⟩
  |int _ v nb hv=>
   exfalso;have hall:=dg_all hle.2 (nb.digits hd);rw[hcons]at hall hv
   have:=nm_len _ _ v hall (by
    by_cases h48:lk L p=48
    ·right
     cases nb with
     |plain g1 g2=>
      unfold q1;rw[if_pos h48];exact dg_end L (p+1)
    ·exact .inl h48) hv
   rw[<-hcons,dg_len hle.2]at this;omega
  |big _ nb hv=>exact⟨rfl,by decide,rfl,rfl⟩
 ·refine⟨Rd.ansT 10 false (dg L p to),λw te pe hv=>read10 _ _ hS _ _ hcons hd (by omega) te pe w hv,?_⟩;have hpos:0<(dg L p to).length:=by rw[dg_len hle.2];omega
  cases hn with
  |bad _ nb=>exact absurd rfl hk
  |flt _ nb=>
   right
   have key:∃i,p<=i/\i<to/\isD (lk L i)=false:=by
    have h1:=q1_le hp;have h2:=q2_le (L:=L) h1.2;cases nb with
    |frac g1 g2=>
     refine⟨q1 L p,by omega,?_,?_⟩
     ·unfold q2;rw[if_pos g1];have:=en_ge isD L (q1 L p+1);omega
     ·unfold frc at g1;simp at g1;rw[g1.1];rfl
    |exp g1 g2=>
     have hb:q2 L (q1 L p)<L.length:=lk_lt (by decide) g1;have h3:=sgn_le (L:=L) (k:=q2 L (q1 L p)+1) (by omega);have h4:=en_ge isD L (sgn L (q2 L (q1 L p)+1));refine⟨q2 L (q1 L p),by omega,by omega,?_⟩;rw[g1];rfl
   obtain⟨i,k1,k2,k3⟩:=key
   have hm:lk L i ∈ dg L p to:=by
    have:=dg_get (L:=L) (p:=p) (to:=to) (i:=i-p) hle.2 (by omega);rw[show p+(i-p)=i by omega]at this;exact List.mem_iff_getElem?.2 ⟨_,this⟩
   rw[Rd.ans_bad 10 false _ _ hm (λg=>by rw[dv_isD.1 g]at k3;cases k3)];exact⟨rfl,by decide,rfl,rfl⟩
  |int _ v nb hv=>
   left
   have hall:=dg_all hle.2 (nb.digits hd);have hlt:=(nm_lt _ 0 v (by decide) hall hv).2;rw[Rd.ans_some 10 false _ (λc hc=>dv_isD.2 (hall c hc)) hpos v (nm_rd _ 0 v (by decide) hall hv),if_neg (by omega)];exact⟨rfl,rfl,rfl⟩
  |big _ nb hv=>
   right
   have hall:=dg_all hle.2 (nb.digits hd);refine⟨rfl,?_,rfl,rfl⟩;cases hr:Rd.rd 10 0 (dg L p to)with
   |none=>rw[Rd.ans_none 10 false _ (λc hc=>dv_isD.2 (hall c hc)) hpos hr];decide
   |some v=>
    have:=nm_no _ 0 (by decide) hall hv v hr;rw[Rd.ans_some 10 false _ (λc hc=>dv_isD.2 (hall c hc)) hpos v hr,if_pos ((Nat.lt_or_eq_of_le this).imp id (λg=>⟨g.symm,rfl⟩))];decide
