import Derived.Test.YtkhdehngobkkfaaGreatDoorASbl
set_option maxRecDepth 100000
set_option maxHeartbeats 4000000
namespace Go.Proofs.YtkhdehngobkkfaaGreatDoor
open Go.ChangeShapes Go.WideShapes Go.ChangeAt Go.RowKit
set_option linter.unusedVariables false
variable {W' W:World}{kd nu a:Int}{tn i B g n b:Nat}{T:ByteArray}{L:List UInt8}{o:Bool}{v:Value}
structure Tr (w:World) (k f t n:Int) (x:ByteArray) (W:World):Prop where
 bel:Below w.heap.size w W
 rz:Rz w.heap.size W
 tb:W.heap[w.heap.size+1]? =some (.cells #[.int .i64 k,.int .i64 f,.int .i64 t,.int .i64 0,.int .i64 n,.string x] 125 (0,0))
section
variable {w W:World} {k f t n:Int} {x:ByteArray}
theorem Tr.start(w:World)(k f t n:Int)(x:ByteArray):Tr w k f t n x ((w.alloc (.cells #[.int .i64 0,.int .i64 0,.int .i64 0,.int .i64 0,.int .i64 0,.string ⟨#[]⟩] 125)).alloc (.cells #[.int .i64 k,.int .i64 f,.int .i64 t,.int .i64 0,.int .i64 n,.string x] 125)):=by
 refine⟨((Below.refl _ w).alloc (Nat.le_refl _) _).alloc (by simp) _,?_,?_⟩
 ·unfold Rz;rw[Below.heap_alloc _ _ _ (by simp)];exact Rz.new w
 ·show((w.heap.push _).push _)[w.heap.size+1]? =_;rw[Array.getElem?_push,if_pos (by simp)]
theorem Tr.size(h:Tr w k f t n x W):w.heap.size+1<W.heap.size:=(Array.getElem?_eq_some_iff.1 h.tb).1
theorem Tr.c0(h:Tr w k f t n x W):W.cell? ⟨w.heap.size+1,0,none⟩=some (.int .i64 k):=by simp[World.cell?,h.tb]
theorem Tr.c1(h:Tr w k f t n x W):W.cell? ⟨w.heap.size+1,1,none⟩=some (.int .i64 f):=by simp[World.cell?,h.tb]
theorem Tr.c2(h:Tr w k f t n x W):W.cell? ⟨w.heap.size+1,2,none⟩=some (.int .i64 t):=by simp[World.cell?,h.tb]
theorem Tr.c3(h:Tr w k f t n x W):W.cell? ⟨w.heap.size+1,3,none⟩=some (.int .i64 0):=by simp[World.cell?,h.tb]
theorem Tr.c4(h:Tr w k f t n x W):W.cell? ⟨w.heap.size+1,4,none⟩=some (.int .i64 n):=by simp[World.cell?,h.tb]
theorem Tr.c5(h:Tr w k f t n x W):W.cell? ⟨w.heap.size+1,5,none⟩=some (.string x):=by simp[World.cell?,h.tb]
theorem Tr.fz(h:Tr w k f t n x W)(j:Nat):W.frozen? ⟨w.heap.size+1,j,none⟩=false:=by simp[World.frozen?,h.tb]
theorem Tr.setx(h:Tr w k f t n x W)(j:Nat)(v:Value):Below w.heap.size w (W.setCell ⟨w.heap.size+1,j,none⟩ v)/\Rz w.heap.size (W.setCell ⟨w.heap.size+1,j,none⟩ v):=
 ⟨h.bel.setCell (Nat.le_succ _) _,by unfold Rz;rw[Below.heap_setCell _ _ _ _ (show w.heap.size≠w.heap.size+1 by omega)];exact h.rz⟩
theorem Tr.set0(h:Tr w k f t n x W)(y:Int):Tr w y f t n x (W.setCell ⟨w.heap.size+1,0,none⟩ (.int .i64 y)):=⟨(h.setx _ _).1,(h.setx _ _).2,by simp[World.setCell,Array.getElem?_modify,h.tb]⟩
theorem Tr.set2(h:Tr w k f t n x W)(y:Int):Tr w k f y n x (W.setCell ⟨w.heap.size+1,2,none⟩ (.int .i64 y)):=⟨(h.setx _ _).1,(h.setx _ _).2,by simp[World.setCell,Array.getElem?_modify,h.tb]⟩
theorem Tr.below(h:Tr w k f t n x W)(hb:Below W.heap.size W W'):Tr w k f t n x W':=by
 have hs:=h.size;refine⟨h.bel.trans (hb.mono (by omega)),?_,?_⟩
 ·unfold Rz;rw[hb.block _ (by omega)];exact h.rz
 ·rw[hb.block _ hs];exact h.tb
end
theorem read_word(T:ByteArray)(L:List UInt8)(hT:T.data.toList=L)(hlen:L.length<=65536)(p:Nat)(hp:p<L.length)(h10:lk L p≠10)(hL:isL (lk L p)=true){tx:ByteArray}(hsub:∀W,Calls Tryz.prog 114 #[.string T,tokV 0 p 0 0 0 ⟨#[]⟩] W (NumP W kd p tn nu tx))(w:World):
  Calls Tryz.prog 97 #[.string T,.int .i64 p] w (NumP w kd p tn nu tx):=by
 have hs:T.size=L.length:=by rw[<-hT];simp
 obtain⟨M,hM,hLM⟩:∃M:Int,M<=65536/\(L.length:Int)<=M:=⟨L.length,by omega,Int.le_refl _⟩
 have hpM:(p:Int)<M:=by omega
 have hix:=ix T L hT p _ (lk_at hp);obtain⟨W,hWe,hts⟩:∃W,W=(w.alloc (.cells #[.int .i64 0,.int .i64 0,.int .i64 0,.int .i64 0,.int .i64 0,.string ⟨#[]⟩] 125)).alloc (.cells #[.int .i64 0,.int .i64 p,.int .i64 0,.int .i64 0,.int .i64 0,.string ⟨#[]⟩] 125)/\Tr w 0 p 0 0 ⟨#[]⟩ W:=⟨_,rfl,Tr.start w 0 p 0 0 ⟨#[]⟩⟩
 have HTS:Hid (Tr w 0 p 0 0 ⟨#[]⟩ W):=hts;have n10:(((lk L p).toNat:Int)==10)=false:=by simp;intro g;exact h10 (UInt8.toNat_inj.1 (show(lk L p).toNat=10 by omega))
 have hlet:=spec_isL (lk L p);rw[hL]at hlet;generalize ((lk L p).toNat:Int)=xp at*;have hhx:=hsub W;unfold tokV at hhx;clear hT hlen hts hsub;go_enter Tryz.func97,Tryz.ntmps97;go_upto_region 3 with fail;rw[<-hWe];clear hWe;go_wp2_with fail;refine(hlet _).mono ?_;rintro e w1 ⟨rfl,hw1⟩;rw[hw1];clear hlet hw1;go_upto_region 8 with fail
 rename_i Kr hKr
 have HKR:Hid (∀(a:Act) (w1:World),bodyPost Tryz.prog Tryz.f97 (NumP w kd p tn nu tx) Exit.ret a w1->Kr a w1):=(λa w1 h=>hKr a w1 (wp_ret h):∀(a:Act) (w1:World),bodyPost Tryz.prog Tryz.f97 (NumP w kd p tn nu tx) Exit.ret a w1->Kr a w1)
 go_light
 have hc0:=HTS.c0;have hc1:=HTS.c1;have hc2:=HTS.c2;have hc3:=HTS.c3;have hc4:=HTS.c4;have hc5:=HTS.c5;go_wp2_with fail;refine hhx.mono ?_;rintro e w2 ⟨hb2,hy,hz⟩;have hT2:=(uh HTS).below hb2;have z3:=hT2.rz;obtain⟨g0,g1,g2,g3,g4,g5,v0,v1,v2,v3,v4,v5,e0,e1,e2,e3,e4,e5⟩:=z3.all;have HBL:Hid (Below w.heap.size w w2):=hT2.bel;clear hhx hT2 z3 hc0 hc1 hc2 hc3 hc4 hc5 HTS hb2;by_cases hk0:kd=0
 ·obtain⟨a,b,c,d,m,t,he⟩:=hz hk0;subst he;have HK0:Hid (kd=0):=hk0;clear hy hz hk0;unfold tokV;go_wp2_with fail;refine(uh HKR) _ _ (bodyPost_ret (by simp[results,Tryz.results97,go_sem,e0,e1,e2,e3,e4,e5];rfl) rfl ?_);refine⟨st6_bel HBL (Nat.le_refl _) _ _ _ _ _ _,λg=>(g HK0).elim,λ_=>⟨_,_,_,_,_,_,rfl⟩⟩
 ·have he:=hy hk0;subst he;have HK0:Hid (kd≠0):=hk0;clear hy hz hk0;unfold tokV;go_wp2_with fail;refine(uh HKR) _ _ (bodyPost_ret (by simp[results,Tryz.results97,go_sem,e0,e1,e2,e3,e4,e5];rfl) rfl ?_);refine⟨st6_bel HBL (Nat.le_refl _) _ _ _ _ _ _,λ_=>rfl,λg=>(HK0 g).elim⟩
theorem readn(T:ByteArray)(L:List UInt8)(hT:T.data.toList=L)(hlen:L.length<=65536)(p:Nat)(hp:p<L.length)(h10:lk L p≠10)(hL:isL (lk L p)=false)(hD:isD (lk L p)=true){tx:ByteArray}(hsub:∀W,Calls Tryz.prog 115 #[.string T,tokV 0 p 0 0 0 ⟨#[]⟩] W (NumP W kd p tn nu tx))(w:World):
  Calls Tryz.prog 97 #[.string T,.int .i64 p] w (NumP w kd p tn nu tx):=by
 have hs:T.size=L.length:=by rw[<-hT];simp
 obtain⟨M,hM,hLM⟩:∃M:Int,M<=65536/\(L.length:Int)<=M:=⟨L.length,by omega,Int.le_refl _⟩
 have hpM:(p:Int)<M:=by omega
 have hix:=ix T L hT p _ (lk_at hp);obtain⟨W,hWe,hts⟩:∃W,W=(w.alloc (.cells #[.int .i64 0,.int .i64 0,.int .i64 0,.int .i64 0,.int .i64 0,.string ⟨#[]⟩] 125)).alloc (.cells #[.int .i64 0,.int .i64 p,.int .i64 0,.int .i64 0,.int .i64 0,.string ⟨#[]⟩] 125)/\Tr w 0 p 0 0 ⟨#[]⟩ W:=⟨_,rfl,Tr.start w 0 p 0 0 ⟨#[]⟩⟩
 have HTS:Hid (Tr w 0 p 0 0 ⟨#[]⟩ W):=hts;have n10:(((lk L p).toNat:Int)==10)=false:=by simp;intro g;exact h10 (UInt8.toNat_inj.1 (show(lk L p).toNat=10 by omega))
 have hlet:=spec_isL (lk L p);rw[hL]at hlet;have hdig:=spec_isD (lk L p);rw[hD]at hdig;generalize ((lk L p).toNat:Int)=xp at*;have hhx:=hsub W;unfold tokV at hhx;clear hT hlen hts hsub;go_enter Tryz.func97,Tryz.ntmps97;go_upto_region 3 with fail;rw[<-hWe];clear hWe;go_wp2_with fail;refine(hlet _).mono ?_;rintro e w1 ⟨rfl,hw1⟩;rw[hw1];clear hlet hw1;go_wp2_with fail;refine(hdig _).mono ?_;rintro e w1 ⟨rfl,hw1⟩;rw[hw1];clear hdig hw1;go_upto_region 10 with fail
 rename_i Kr hKr
 have HKR:Hid (∀(a:Act) (w1:World),bodyPost Tryz.prog Tryz.f97 (NumP w kd p tn nu tx) Exit.ret a w1->Kr a w1):=(λa w1 h=>hKr a w1 (wp_ret h):∀(a:Act) (w1:World),bodyPost Tryz.prog Tryz.f97 (NumP w kd p tn nu tx) Exit.ret a w1->Kr a w1)
 go_light
 have hc0:=HTS.c0;have hc1:=HTS.c1;have hc2:=HTS.c2;have hc3:=HTS.c3;have hc4:=HTS.c4;have hc5:=HTS.c5;go_wp2_with fail;refine hhx.mono ?_;rintro e w2 ⟨hb2,hy,hz⟩;have hT2:=(uh HTS).below hb2;have z3:=hT2.rz;obtain⟨g0,g1,g2,g3,g4,g5,v0,v1,v2,v3,v4,v5,e0,e1,e2,e3,e4,e5⟩:=z3.all;have HBL:Hid (Below w.heap.size w w2):=hT2.bel;clear hhx hT2 z3 hc0 hc1 hc2 hc3 hc4 hc5 HTS hb2;by_cases hk0:kd=0
 ·obtain⟨a,b,c,d,m,t,he⟩:=hz hk0;subst he;have HK0:Hid (kd=0):=hk0;clear hy hz hk0;unfold tokV;go_wp2_with fail;refine(uh HKR) _ _ (bodyPost_ret (by simp[results,Tryz.results97,go_sem,e0,e1,e2,e3,e4,e5];rfl) rfl ?_);refine⟨st6_bel HBL (Nat.le_refl _) _ _ _ _ _ _,λg=>(g HK0).elim,λ_=>⟨_,_,_,_,_,_,rfl⟩⟩
 ·have he:=hy hk0;subst he;have HK0:Hid (kd≠0):=hk0;clear hy hz hk0;unfold tokV;go_wp2_with fail;refine(uh HKR) _ _ (bodyPost_ret (by simp[results,Tryz.results97,go_sem,e0,e1,e2,e3,e4,e5];rfl) rfl ?_);refine⟨st6_bel HBL (Nat.le_refl _) _ _ _ _ _ _,λ_=>rfl,λg=>(HK0 g).elim⟩
theorem read_str(T:ByteArray)(L:List UInt8)(hT:T.data.toList=L)(hlen:L.length<=65536)(p:Nat)(hp:p<L.length)(hL:isL (lk L p)=false)(hD:isD (lk L p)=false)(h34:lk L p=34){tx:ByteArray}(hsub:∀W,Calls Tryz.prog 116 #[.string T,tokV 0 p 0 0 0 ⟨#[]⟩] W (NumP W kd p tn nu tx))(w:World):
  Calls Tryz.prog 97 #[.string T,.int .i64 p] w (NumP w kd p tn nu tx):=by
 have hs:T.size=L.length:=by rw[<-hT];simp
 obtain⟨M,hM,hLM⟩:∃M:Int,M<=65536/\(L.length:Int)<=M:=⟨L.length,by omega,Int.le_refl _⟩
 have hpM:(p:Int)<M:=by omega
 have hix:=ix T L hT p _ (lk_at hp);obtain⟨W,hWe,hts⟩:∃W,W=(w.alloc (.cells #[.int .i64 0,.int .i64 0,.int .i64 0,.int .i64 0,.int .i64 0,.string ⟨#[]⟩] 125)).alloc (.cells #[.int .i64 0,.int .i64 p,.int .i64 0,.int .i64 0,.int .i64 0,.string ⟨#[]⟩] 125)/\Tr w 0 p 0 0 ⟨#[]⟩ W:=⟨_,rfl,Tr.start w 0 p 0 0 ⟨#[]⟩⟩
 have HTS:Hid (Tr w 0 p 0 0 ⟨#[]⟩ W):=hts;rw[h34]at hix;have hlet:=spec_isL (lk L p);rw[hL,h34]at hlet;have hdig:=spec_isD (lk L p);rw[hD,h34]at hdig;have hhx:=hsub W;unfold tokV at hhx;clear hT hlen hts hsub;go_enter Tryz.func97,Tryz.ntmps97;go_upto_region 3 with fail;rw[<-hWe];clear hWe;go_wp2_with fail;refine(hlet _).mono ?_;rintro e w1 ⟨rfl,hw1⟩;rw[hw1];clear hlet hw1;go_wp2_with fail;refine(hdig _).mono ?_;rintro e w1 ⟨rfl,hw1⟩;rw[hw1];clear hdig hw1;go_upto_region 12 with fail
 rename_i Kr hKr
 have HKR:Hid (∀(a:Act) (w1:World),bodyPost Tryz.prog Tryz.f97 (NumP w kd p tn nu tx) Exit.ret a w1->Kr a w1):=(λa w1 h=>hKr a w1 (wp_ret h):∀(a:Act) (w1:World),bodyPost Tryz.prog Tryz.f97 (NumP w kd p tn nu tx) Exit.ret a w1->Kr a w1)
 go_light
 have hc0:=HTS.c0;have hc1:=HTS.c1;have hc2:=HTS.c2;have hc3:=HTS.c3;have hc4:=HTS.c4;have hc5:=HTS.c5;go_wp2_with fail;refine hhx.mono ?_;rintro e w2 ⟨hb2,hy,hz⟩;have hT2:=(uh HTS).below hb2;have z3:=hT2.rz;obtain⟨g0,g1,g2,g3,g4,g5,v0,v1,v2,v3,v4,v5,e0,e1,e2,e3,e4,e5⟩:=z3.all;have HBL:Hid (Below w.heap.size w w2):=hT2.bel;clear hhx hT2 z3 hc0 hc1 hc2 hc3 hc4 hc5 HTS hb2;by_cases hk0:kd=0
 ·obtain⟨a,b,c,d,m,t,he⟩:=hz hk0;subst he;have HK0:Hid (kd=0):=hk0;clear hy hz hk0;unfold tokV;go_wp2_with fail;refine(uh HKR) _ _ (bodyPost_ret (by simp[results,Tryz.results97,go_sem,e0,e1,e2,e3,e4,e5];rfl) rfl ?_);refine⟨st6_bel HBL (Nat.le_refl _) _ _ _ _ _ _,λg=>(g HK0).elim,λ_=>⟨_,_,_,_,_,_,rfl⟩⟩
 ·have he:=hy hk0;subst he;have HK0:Hid (kd≠0):=hk0;clear hy hz hk0;unfold tokV;go_wp2_with fail;refine(uh HKR) _ _ (bodyPost_ret (by simp[results,Tryz.results97,go_sem,e0,e1,e2,e3,e4,e5];rfl) rfl ?_);refine⟨st6_bel HBL (Nat.le_refl _) _ _ _ _ _ _,λ_=>rfl,λg=>(HK0 g).elim⟩
theorem read_nl(T:ByteArray)(L:List UInt8)(hT:T.data.toList=L)(hlen:L.length<=65536)(p:Nat)(hp:p<L.length)(h10:lk L p=10){tx:ByteArray}(hkd:kd=7/\tn=p+1/\nu=0/\tx=⟨#[]⟩)(w:World):
  Calls Tryz.prog 97 #[.string T,.int .i64 p] w (NumP w kd p tn nu tx):=by
 have hs:T.size=L.length:=by rw[<-hT];simp
 obtain⟨M,hM,hLM⟩:∃M:Int,M<=65536/\(L.length:Int)<=M:=⟨L.length,by omega,Int.le_refl _⟩
 have hpM:(p:Int)<M:=by omega
 have hix:=ix T L hT p _ (lk_at hp);obtain⟨W,hWe,hts⟩:∃W,W=(w.alloc (.cells #[.int .i64 0,.int .i64 0,.int .i64 0,.int .i64 0,.int .i64 0,.string ⟨#[]⟩] 125)).alloc (.cells #[.int .i64 0,.int .i64 p,.int .i64 0,.int .i64 0,.int .i64 0,.string ⟨#[]⟩] 125)/\Tr w 0 p 0 0 ⟨#[]⟩ W:=⟨_,rfl,Tr.start w 0 p 0 0 ⟨#[]⟩⟩
 have HTS:Hid (Tr w 0 p 0 0 ⟨#[]⟩ W):=hts;rw[h10]at hix;have HK:Hid (kd=7/\tn=p+1/\nu=0/\tx=⟨#[]⟩):=hkd;have c0:=hts.c0;have f0:=hts.fz 0;have h2:=hts.set0 7;have c2:=h2.c2;have f2:=h2.fz 2;obtain⟨W6,hW6,HT6⟩:∃W6,W6=(W.setCell ⟨w.heap.size+1,0,none⟩ (.int .i64 7)).setCell ⟨w.heap.size+1,2,none⟩ (.int .i64 ((p:Int)+1))/\Hid (Tr w 7 p ((p:Int)+1) 0 ⟨#[]⟩ W6):=⟨_,rfl,h2.set2 _⟩
 clear hT hlen hts h10 hkd h2 HTS;go_enter Tryz.func97,Tryz.ntmps97;go_upto_region 3 with fail;rw[<-hWe];clear hWe;go_upto_region 6 with fail
 rename_i Kr hKr
 have HKR:Hid (∀(a:Act) (w1:World),bodyPost Tryz.prog Tryz.f97 (NumP w kd p tn nu tx) Exit.ret a w1->Kr a w1):=(λa w1 h=>hKr a w1 (wp_ret h):∀(a:Act) (w1:World),bodyPost Tryz.prog Tryz.f97 (NumP w kd p tn nu tx) Exit.ret a w1->Kr a w1)
 go_light
 rw[<-hW6];clear hW6 c0 c2 f0 f2;have h6:=(uh HT6)
 have hc0:=h6.c0;have hc1:=h6.c1;have hc2:=h6.c2;have hc3:=h6.c3;have hc4:=h6.c4;have hc5:=h6.c5;have z3:=h6.rz;obtain⟨g0,g1,g2,g3,g4,g5,v0,v1,v2,v3,v4,v5,e0,e1,e2,e3,e4,e5⟩:=z3.all;have HBL:Hid (Below w.heap.size w _):=h6.bel;clear h6 z3;go_wp2_with fail;refine(uh HKR) _ _ (bodyPost_ret (by simp[results,Tryz.results97,go_sem,e0,e1,e2,e3,e4,e5];rfl) rfl ?_);obtain⟨k1,k2,k3,k4⟩:=(uh HK)
 subst k1 k2 k3 k4;exact⟨st6_bel HBL (Nat.le_refl _) _ _ _ _ _ _,λ_=>rfl,λg=>absurd g (by decide)⟩
theorem sgn_cell(W:World)(i:Nat)(hi:i<30):(W.alloc (.cells sgnA 9)).cell? ⟨W.heap.size,i,none⟩=some (.string (sgnB i)):=by
 have:=sgn_get i hi;simp[this]
theorem sgn_siz(i:Nat):(sgnB i).size=(sgnL.getD i []).length:=by
 rw[<-sgn_list i];simp
theorem sgn_le3(hi:i<30):(sgnL.getD i []).length<=3:=(sgn_same ⟨i,hi⟩).2.2.2
theorem sgn_pos(hi:i<30):0<(sgnL.getD i []).length:=(sgn_same ⟨i,hi⟩).2.2.1
theorem read_sign(T:ByteArray)(L:List UInt8)(hT:T.data.toList=L)(hlen:L.length<=65536)(p:Nat)(hp:p<L.length)(h10:lk L p≠10)(hL:isL (lk L p)=false)(hD:isD (lk L p)=false)(h34:lk L p≠34){m:Nat}(hm:Sm (L.drop p) m){tx:ByteArray}(hkd:(m<30/\kd=ssv (sgnL.getD m [])/\tn=p+(sgnL.getD m []).length\/¬m<30/\kd=0/\tn=p)/\nu=0/\tx=⟨#[]⟩)(w:World):
  Calls Tryz.prog 97 #[.string T,.int .i64 p] w (NumP w kd p tn nu tx):=by
 have hs:T.size=L.length:=by rw[<-hT];simp
 obtain⟨M,hM,hLM⟩:∃M:Int,M<=65536/\(L.length:Int)<=M:=⟨L.length,by omega,Int.le_refl _⟩
 have hpM:(p:Int)<M:=by omega
 have hix:=ix T L hT p _ (lk_at hp);obtain⟨W,hWe,hts⟩:∃W,W=(w.alloc (.cells #[.int .i64 0,.int .i64 0,.int .i64 0,.int .i64 0,.int .i64 0,.string ⟨#[]⟩] 125)).alloc (.cells #[.int .i64 0,.int .i64 p,.int .i64 0,.int .i64 0,.int .i64 0,.string ⟨#[]⟩] 125)/\Tr w 0 p 0 0 ⟨#[]⟩ W:=⟨_,rfl,Tr.start w 0 p 0 0 ⟨#[]⟩⟩
 have HTS:Hid (Tr w 0 p 0 0 ⟨#[]⟩ W):=hts;have n10:(((lk L p).toNat:Int)==10)=false:=by simp;intro g;exact h10 (UInt8.toNat_inj.1 (show(lk L p).toNat=10 by omega))
 have n34:(((lk L p).toNat:Int)==34)=false:=by simp;intro g;exact h34 (UInt8.toNat_inj.1 (show(lk L p).toNat=34 by omega))
 have hlet:=spec_isL (lk L p);rw[hL]at hlet;have hdig:=spec_isD (lk L p);rw[hD]at hdig;generalize ((lk L p).toNat:Int)=xp at*;have HK:Hid ((m<30/\kd=ssv (sgnL.getD m [])/\tn=p+(sgnL.getD m []).length\/¬m<30/\kd=0/\tn=p)/\nu=0/\tx=⟨#[]⟩):=hkd;have HSG:=spec_signs W
 obtain⟨W1,hW1,HT1,HC1⟩:∃W1,W1=W.alloc (.cells sgnA 9)/\Hid (Tr w 0 p 0 0 ⟨#[]⟩ W1)/\Hid (∀i,i<30->W1.cell? ⟨W.heap.size,i,none⟩=some (.string (sgnB i))):=
  ⟨_,rfl,hts.below ((Below.refl _ W).alloc (Nat.le_refl _) _),(λi hi=>sgn_cell W i hi:∀i,i<30->_)⟩
 have hdrop:∀X:ByteArray,p+X.size<=L.length->((T.extract p (p+X.size)).toList==X.toList)=((L.drop p).take X.size==X.data.toList):=by
  intro X hX;rw[cmp_list,ext_list,hT,Nat.add_sub_cancel_left]
 obtain⟨hm30,hneq,hlast⟩:=hm
 have HNQ:Hid (∀i,i<m->(L.length-p<(sgnB i).size)\/(p+(sgnB i).size<=L.length/\((T.extract p (p+(sgnB i).size)).toList==(sgnB i).toList)=false)):=(λi hi=>by
  rcases Nat.lt_or_ge (L.length-p) (sgnB i).size with g|g
  ·exact .inl g
  ·refine .inr ⟨by omega,?_⟩;rw[hdrop _ (by omega),sgn_siz,sgn_list]
   exact hneq i hi:∀i,i<m->(L.length-p<(sgnB i).size)\/(p+(sgnB i).size<=L.length/\((T.extract p (p+(sgnB i).size)).toList==(sgnB i).toList)=false))
 have HLA:Hid (m=30\/(m<30/\p+(sgnB m).size<=L.length/\((T.extract p (p+(sgnB m).size)).toList==(sgnB m).toList)=true)):=by
  show m=30\/_;by_cases e:m=30
  ·exact .inl e
  ·right
   have h:=hlast.resolve_left e
   have hle:(sgnL.getD m []).length<=L.length-p:=by
    have:=congrArg List.length (eq_of_beq h);rw[List.length_take,List.length_drop]at this;omega
   rw[<-sgn_siz]at hle;refine⟨by omega,by omega,?_⟩;rw[hdrop _ (by omega),sgn_siz,sgn_list];exact h
 have HTT:Hid (T.size=L.length):=hs;clear hT hlen hts h10 h34 hkd hneq hlast hdrop HTS hL hD;go_enter Tryz.func97,Tryz.ntmps97;go_upto_region 3 with fail;rw[<-hWe];clear hWe;go_wp2_with fail;refine(hlet _).mono ?_;rintro e w1 ⟨rfl,hw1⟩;rw[hw1];clear hlet hw1;go_wp2_with fail;refine(hdig _).mono ?_;rintro e w1 ⟨rfl,hw1⟩;rw[hw1];clear hdig hw1;go_wp2_with fail;refine HSG.mono ?_;rintro e w1 ⟨rfl,hw1⟩;rw[hw1,<-hW1];clear HSG hw1 hW1 hix n10 n34;go_wp2_with fail
 go_loop [45] (λa=>∃i:Nat,a=.int .i64 i/\i<=m) (λa=>30-(intOf a).toNat)
 case atStart=>exact⟨0,rfl,Nat.zero_le _⟩
 case round=>
  obtain⟨i,rfl,him⟩:=hrel;by_cases hi:i<m
  ·have hi30:(i:Int)<30:=by omega
   have hcell:=(uh HC1) i (by omega);rcases(uh HNQ) i hi with g|⟨g1,g2⟩
   ·have hge:¬((sgnB i).size:Int)<=(L.length:Int)-(p:Int):=by omega
    clear HNQ HLA HK HT1 HC1 g;generalize sgnB i=X at*;go_wp2_with fail
    go_round
    case rel=>exact⟨i+1,by go_num,by omega⟩
    case measure=>simp[intOf];omega
   ·have hge:((sgnB i).size:Int)<=(L.length:Int)-(p:Int):=by omega
    have hsl:∀W:World,(Instr.slice 9 (.string T) (some (.int .i64 p)) (some (.int .i64 ((p:Int)+((sgnB i).size:Int)))) none).run Tryz.prog W=.ok (.string (T.extract p (p+(sgnB i).size))) W:=by
     intro W;rw[run_slice_string (P:=Tryz.prog) W 9 T .i64 .i64 (p:Int) ((p:Int)+((sgnB i).size:Int)) Tryz.underlying9 (by omega) (by omega) (by omega)];have:((p:Int)+((sgnB i).size:Int)).toNat=p+(sgnB i).size:=by omega
     simp[this]
    have hX3:((sgnB i).size:Int)<=3:=by rw[sgn_siz];have:=sgn_le3 (show i<30 by omega);omega
    clear HNQ HLA HK HT1 HC1 g1;generalize T.extract p (p+(sgnB i).size)=S at*;generalize sgnB i=X at*;go_wp2_with fail
    go_round
    case rel=>exact⟨i+1,by go_num,by omega⟩
    case measure=>simp[intOf];omega
  ·obtain rfl:i=m:=by omega
   rcases(uh HLA)with e30|⟨l30,g1,g2⟩
   ·subst e30
    have HK2:Hid (kd=0/\tn=p):=by
     rcases HK.1 with⟨k1,_⟩|⟨_,k2,k3⟩
     ·exact absurd k1 (by decide)
     ·exact⟨k2,k3⟩
    clear HNQ HLA HC1 HK;go_upto_region 21 with fail
    rename_i Kr hKr
    have HKR:Hid (∀(a:Act) (w1:World),bodyPost Tryz.prog Tryz.f97 (NumP w kd p tn nu tx) Exit.ret a w1->Kr a w1):=(λa w1 h=>hKr a w1 (wp_ret h):∀(a:Act) (w1:World),bodyPost Tryz.prog Tryz.f97 (NumP w kd p tn nu tx) Exit.ret a w1->Kr a w1)
    go_light
    have h6:=(uh HT1)
    have hc0:=h6.c0;have hc1:=h6.c1;have hc2:=h6.c2;have hc3:=h6.c3;have hc4:=h6.c4;have hc5:=h6.c5;have z3:=h6.rz;obtain⟨g0,g1,g2,g3,g4,g5,v0,v1,v2,v3,v4,v5,e0,e1,e2,e3,e4,e5⟩:=z3.all;have HBL:Hid (Below w.heap.size w _):=h6.bel;clear h6 z3;go_wp2_with fail;refine(uh HKR) _ _ (bodyPost_ret (by simp[results,Tryz.results97,go_sem,e0,e1,e2,e3,e4,e5];rfl) rfl ?_);exact⟨st6_bel HBL (Nat.le_refl _) _ _ _ _ _ _,λg=>(g HK2.1).elim,λ_=>⟨_,_,_,_,_,_,by rw[show tn=p from HK2.2];rfl⟩⟩
   ·have hi30:(i:Int)<30:=by omega
    have hcell:=(uh HC1) i l30;have hge:((sgnB i).size:Int)<=(L.length:Int)-(p:Int):=by omega
    have hsl:∀W:World,(Instr.slice 9 (.string T) (some (.int .i64 p)) (some (.int .i64 ((p:Int)+((sgnB i).size:Int)))) none).run Tryz.prog W=.ok (.string (T.extract p (p+(sgnB i).size))) W:=by
     intro W;rw[run_slice_string (P:=Tryz.prog) W 9 T .i64 .i64 (p:Int) ((p:Int)+((sgnB i).size:Int)) Tryz.underlying9 (by omega) (by omega) (by omega)];have:((p:Int)+((sgnB i).size:Int)).toNat=p+(sgnB i).size:=by omega
     simp[this]
    have hX3:((sgnB i).size:Int)<=3:=by rw[sgn_siz];have:=sgn_le3 l30;omega
    have hsr:=spec_sign_run (sgnB i) W1;obtain⟨sk,hsk⟩:∃sk,ssv (sgnB i).data.toList=sk:=⟨_,rfl⟩
    rw[hsk]at hsr
    have HK2:Hid (kd=sk/\(tn:Int)=(p:Int)+((sgnB i).size:Int)/\kd≠0/\nu=0/\tx=⟨#[]⟩):=by
     rcases HK.1 with⟨_,k2,k3⟩|⟨k1,_⟩
     ·exact⟨by rw[<-hsk,sgn_list];exact k2,by rw[sgn_siz];omega,by rw[k2];exact(sgn_same ⟨i,l30⟩).2.1,HK.2⟩
     ·exact absurd l30 k1
    clear HNQ HLA HC1 HK g1 hsk;generalize T.extract p (p+(sgnB i).size)=S at*;generalize sgnB i=X at*;go_wp2_with fail;refine hsr.mono ?_;rintro e w2 ⟨rfl,hb2⟩;have hT2:=(uh HT1).below hb2;have c0:=hT2.c0;have f0:=hT2.fz 0;have h2:=hT2.set0 sk;have c2:=h2.c2;have f2:=h2.fz 2;obtain⟨W6,hW6,HT6⟩:∃W6,W6=(w2.setCell ⟨w.heap.size+1,0,none⟩ (.int .i64 sk)).setCell ⟨w.heap.size+1,2,none⟩ (.int .i64 ((p:Int)+(X.size:Int)))/\Hid (Tr w sk p ((p:Int)+(X.size:Int)) 0 ⟨#[]⟩ W6):=⟨_,rfl,h2.set2 _⟩
    clear hT2 h2 hsr hb2 HT1 hcell hsl g2;go_upto_region 19 with fail
    rename_i Kr hKr
    have HKR:Hid (∀(a:Act) (w1:World),bodyPost Tryz.prog Tryz.f97 (NumP w kd p tn nu tx) Exit.ret a w1->Kr a w1):=(λa w1 h=>hKr a w1 (wp_ret h):∀(a:Act) (w1:World),bodyPost Tryz.prog Tryz.f97 (NumP w kd p tn nu tx) Exit.ret a w1->Kr a w1)
    go_light
    rw[<-hW6];clear hW6 c0 c2 f0 f2;have h6:=(uh HT6)
    have hc0:=h6.c0;have hc1:=h6.c1;have hc2:=h6.c2;have hc3:=h6.c3;have hc4:=h6.c4;have hc5:=h6.c5;have z3:=h6.rz;obtain⟨g0,g1,g2,g3,g4,g5,v0,v1,v2,v3,v4,v5,e0,e1,e2,e3,e4,e5⟩:=z3.all;have HBL:Hid (Below w.heap.size w _):=h6.bel;clear h6 z3;go_wp2_with fail;refine(uh HKR) _ _ (bodyPost_ret (by simp[results,Tryz.results97,go_sem,e0,e1,e2,e3,e4,e5];rfl) rfl ?_);obtain⟨k1,k2,k3,k4,k5⟩:=(uh HK2)
    subst k1 k4 k5;exact⟨st6_bel HBL (Nat.le_refl _) _ _ _ _ _ _,λ_=>by rw[k2];rfl,λg=>absurd g k3⟩
inductive Tko (T:ByteArray) (L:List UInt8) (p:Nat):Tk->Prop
 |nl:lk L p=10->Tko T L p ⟨7,p+1,0,⟨#[]⟩⟩
 |word (m:Nat):isL (lk L p)=true->Wm (T.extract p (en isW L p)) m->Tko T L p ⟨wkI m,en isW L p,0,wkT m (T.extract p (en isW L p))⟩
 |num (kd:Int) (tn:Nat) (nu:Int) (tx:ByteArray):isD (lk L p)=true->¬(lk L p=48/\lk L (p+1)=120)->Num T L p kd tn nu tx->Tko T L p ⟨kd,tn,nu,tx⟩
 |hex (ok:Bool) (tn:Nat) (n:Int):lk L p=48/\lk L (p+1)=120->Hx L p ok tn n->Tko T L p ⟨if ok=true then 2 else 0,tn,n,⟨#[]⟩⟩
 |str (ok:Bool) (tn:Nat) (t:List UInt8):lk L p=34->Sr L (p+1) [] ok tn t->Tko T L p ⟨if ok=true then 4 else 0,tn,0,⟨t.toArray⟩⟩
 |sign (m:Nat) (kd:Int) (tn:Nat):lk L p≠10->isL (lk L p)=false->isD (lk L p)=false->lk L p≠34->Sm (L.drop p) m->(m<30/\kd=ssv (sgnL.getD m [])/\tn=p+(sgnL.getD m []).length\/¬m<30/\kd=0/\tn=p)->Tko T L p ⟨kd,tn,0,⟨#[]⟩⟩
theorem tko_any(T:ByteArray)(L:List UInt8)(p:Nat)(hp:p<L.length):∃t,Tko T L p t:=by
 by_cases h10:lk L p=10
 ·exact⟨_,.nl h10⟩
 cases hL:isL (lk L p)with
 |true=>
  obtain⟨m,hm⟩:=wm_any (T.extract p (en isW L p));exact⟨_,.word m hL hm⟩
 |false=>
  cases hD:isD (lk L p)with
  |true=>
   by_cases hx:lk L p=48/\lk L (p+1)=120
   ·have:=lk_lt (L:=L) (k:=p+1) (c:=120) (by decide) hx.2;obtain⟨ok,tn,n,h⟩:=hx_any L p (by omega);exact⟨_,.hex ok tn n hx h⟩
   ·obtain⟨k,tn,n,x,h⟩:=num_any T L p;exact⟨_,.num k tn n x hD hx h⟩
  |false=>
   by_cases h34:lk L p=34
   ·obtain⟨ok,tn,t,h⟩:=sr_any L L.length (p+1) [] (by omega);exact⟨_,.str ok tn t h34 h⟩
   ·obtain⟨m,hm⟩:=sm_any (L.drop p);by_cases h30:m<30
    ·exact⟨_,.sign m _ _ h10 hL hD h34 hm (.inl ⟨h30,rfl,rfl⟩)⟩
    ·exact⟨_,.sign m _ _ h10 hL hD h34 hm (.inr ⟨h30,rfl,rfl⟩)⟩
theorem tk_any(T:ByteArray)(L:List UInt8):∃tk:Nat->Tk,∀p,p<L.length->Tko T L p (tk p):=
 ⟨λp=>if h:p<L.length then Classical.choose (tko_any T L p h)else⟨0,0,0,⟨#[]⟩⟩,λp hp=>by
  show Tko T L p (if h:p<L.length then Classical.choose (tko_any T L p h)else⟨0,0,0,⟨#[]⟩⟩);rw[dif_pos hp]
  exact Classical.choose_spec (tko_any T L p hp)⟩
theorem isL_not{c:UInt8}(h:isD c=true):isL c=false:=by
 have:=digit_nat h;unfold isL
 simp
 omega
theorem Tko.ok {T:ByteArray} {L:List UInt8} {p:Nat} {t:Tk} (h:Tko T L p t) (hp:p<L.length):(t.kind≠0->p<t.to)/\t.to<=L.length:=by
 cases h with
 |nl _=>exact⟨λ_=>Nat.lt_succ_self _,hp⟩
 |word m hL _=>
  have hW:isW (lk L p)=true:=by unfold isW;rw[hL];rfl
  obtain⟨h1,h2⟩:=en_at (p:=isW) isW_zero hW;have h3:=en_ge isW L (p+1);exact⟨λ_=>by show p<en isW L p;omega,en_le _ _ _ (by omega)⟩
 |num kd tn nu tx hD _ hn=>
  have key:p<tn/\tn<=L.length:=by
   cases hn with
   |bad _ nb=>exact nb.le hp
   |flt _ nb=>exact nb.le hp
   |int _ v nb hv=>exact nb.le hp
   |big _ nb hv=>exact nb.le hp
  exact⟨λ_=>key.1,key.2⟩
 |hex ok tn n hx h=>
  have h1:=lk_lt (L:=L) (k:=p+1) (c:=120) (by decide) hx.2;have h2:=en_le (dgb 16) L (p+2) (by omega);have h3:=en_ge (dgb 16) L (p+2);cases h with
  |none g=>exact⟨λ_=>by show p<p+2;omega,by show p+2<=_;omega⟩
  |many g=>exact⟨λ_=>by show p<p+18;omega,by show p+18<=_;omega⟩
  |some e v g1 g2 g3 g4=>exact⟨λ_=>by show p<tn;omega,by show tn<=_;omega⟩
 |str ok tn t _ h=>
  have:=h.le (by omega);exact⟨λ_=>by show p<tn;omega,this.2.1⟩
 |sign m kd tn _ _ _ _ hm hk=>
  rcases hk with⟨h30,h1,h2⟩|⟨_,h1,h2⟩
  ·have h3:=sgn_pos h30
   have hle:(sgnL.getD m []).length<=L.length-p:=by
    have:=congrArg List.length (eq_of_beq (hm.2.2.resolve_left (by omega)));rw[List.length_take,List.length_drop]at this;omega
   exact⟨λ_=>by show p<tn;omega,by show tn<=_;omega⟩
  ·exact⟨λg=>absurd h1 g,by show tn<=_;omega⟩
theorem tko_ok{tk:Nat->Tk}(h:∀p,p<L.length->Tko T L p (tk p)):TkOk L tk:=
 ⟨λp hp=>((h p hp).ok hp).1,λp hp=>((h p hp).ok hp).2⟩
theorem wkI_ne(m:Nat):wkI m≠0:=by unfold wkI;split<;>omega
theorem tko_spec(hT:T.data.toList=L)(hlen:L.length<=65536){tk:Nat->Tk}(h:∀p,p<L.length->Tko T L p (tk p)):TokS T L tk:=by
 intro p w hp
 have key:∀t:Tk,Tko T L p t->Calls Tryz.prog 97 #[.string T,.int .i64 p] w (NumP w t.kind p t.to t.num t.text):=by
  intro t ht;cases ht with
  |nl h10=>exact read_nl T L hT hlen p hp h10 ⟨rfl,rfl,rfl,rfl⟩ w
  |word m hL hm=>
   refine read_word T L hT hlen p hp (λg=>by rw[g]at hL;exact absurd hL (by decide)) hL (λW=>?_) w;exact(spec_word T L hT hlen p m (by omega) hm W).mono λe w' hh=>⟨hh.2,λ_=>hh.1,λg=>absurd g (wkI_ne m)⟩
  |num kd tn nu tx hD hx hn=>
   refine readn T L hT hlen p hp (λg=>by rw[g]at hD;exact absurd hD (by decide)) (isL_not hD) hD (λW=>?_) w;exact spec_num T L hT hlen p hD hx hn W
  |hex ok tn n hx hh=>
   refine readn T L hT hlen p hp (λg=>by rw[hx.1]at g;exact absurd g (by decide)) (by rw[hx.1];decide) (by rw[hx.1];decide) (λW=>?_) w;exact spec_numx T L hT hlen p hx hh _ rfl W
  |str ok tn t h34 hh=>
   refine read_str T L hT hlen p hp (by rw[h34];decide) (by rw[h34];decide) h34 (λW=>?_) w;exact spec_string T L hT hlen p hp hh _ rfl W
  |sign m kd tn h10 hL hD h34 hm hk=>exact read_sign T L hT hlen p hp h10 hL hD h34 hm ⟨hk,rfl,rfl⟩ w
 exact key (tk p) (h p hp)
theorem tko_impl(hT:T.data.toList=L)(hlen:L.length<=65536)(hB:12<=B){tk:Nat->Tk}(h:∀p,p<L.length->Tko T L p (tk p)):TokC B T L tk:=by
 have hs:T.size=L.length:=by rw[<-hT];simp
 have hl2:T.size<=65536:=by omega
 refine impl_token L tk hB hlen (λp hp=>(tko_ok h).le p hp) (λp hp=>?_);have hx:=lk_at hp;have hne34:lk L p≠34->((lk L p).toNat==34)=false:=λg=>by simp;intro e;exact g (UInt8.toNat_inj.1 (show(lk L p).toNat=34 from e))
 have hdrop:(L.drop p).head?=some (lk L p):=by rw[List.head?_drop];exact hx
 have key:∀t:Tk,Tko T L p t->PartC 152 B T p t:=by
  intro t ht;cases ht with
  |nl h10=>
   refine alone_sign L hT p _ hx (by rw[h10];decide) (by rw[h10];decide) (by rw[h10];decide) hB _ ?_;intro l w hg hsb;have:=impl_signs L hT hl2 (Nat.le_of_lt hp) hB w hg hsb;rw[sign_nl (by rw[hdrop,h10])]at this;exact this
  |word m hL hm=>
   refine alone_word L hT p _ hx hL hB _ ?_;intro l w hg hsb;exact impl_word L hT hl2 m (Nat.le_of_lt hp) hm hB w hg hsb
  |num kd tn nu tx hD hx0 hn=>
   refine alone_num L hT p _ hx (isL_not hD) hD hB _ ?_;intro l w hg hsb;exact impl_num L hT hl2 hB hD hx0 hn w hg hsb
  |hex ok tn n hx0 hh=>
   refine alone_num L hT p _ hx (by rw[hx0.1];decide) (by rw[hx0.1];decide) hB _ ?_;intro l w hg hsb;exact impl_numx L hT hl2 hB hx0 hh _ rfl w hg hsb
  |str ok tn t h34 hh=>
   refine alone_str L hT p _ hx (by rw[h34];decide) (by rw[h34];decide) (by rw[h34];decide) hB _ ?_;intro l w hg hsb;exact impl_str L hT hl2 hp hB hh _ rfl w hsb
  |sign m kd tn h10 hL hD h34 hm hk=>
   refine alone_sign L hT p _ hx hL hD (hne34 h34) hB _ ?_;intro l w hg hsb;have:=impl_signs L hT hl2 (Nat.le_of_lt hp) hB w hg hsb;rw[sign_eq hm (by rw[hdrop];intro g;exact h10 (Option.some.inj g))]at this;rcases hk with⟨h30,rfl,rfl⟩|⟨h30,rfl,rfl⟩
   ·rw[if_pos h30]at this;exact this
   ·rw[if_neg h30]at this;exact this
 exact key (tk p) (h p hp)
theorem conv_one(W:World)(c:UInt8):(convert 38 9 (.slice (some ⟨W.heap.size,0,none⟩) 1 1)).run Tryz.prog (W.alloc (.cells #[.int .u8 c.toNat] 5))=.ok (.string ⟨#[c]⟩) (W.alloc (.cells #[.int .u8 c.toNat] 5)):=by
 have:=run_convert_bytes_back (P:=Tryz.prog) (W.alloc (.cells #[.int .u8 c.toNat] 5)) 38 9 5 ⟨W.heap.size,0,none⟩ 1 [c] Tryz.underlying38 Tryz.underlying5 Tryz.underlying9 (λj hj=>by
  obtain rfl:j=0:=by simp at hj;omega
  simp[Addr.add])
 simpa using this
def mtl (k:Nat) (out:ByteArray):ByteArray:=if h:k=0 then out else mtl (k / 10) (⟨#[UInt8.ofNat (48+k%10)]⟩++out)
termination_by k
decreasing_by omega
structure Tv where
 k:Int
 f:Int
 t:Int
 l:Int
 n:Int
 x:ByteArray
structure Cel (W:World) (g o:Nat) (a:Tv):Prop where
 c0:W.cell? ⟨g,o,none⟩=some (.int .i64 a.k)
 c1:W.cell? ⟨g,o+1,none⟩=some (.int .i64 a.f)
 c2:W.cell? ⟨g,o+2,none⟩=some (.int .i64 a.t)
 c3:W.cell? ⟨g,o+3,none⟩=some (.int .i64 a.l)
 c4:W.cell? ⟨g,o+4,none⟩=some (.int .i64 a.n)
 c5:W.cell? ⟨g,o+5,none⟩=some (.string a.x)
def RowC(W:World)(v:Value)(g n:Nat)(A:Nat->Tv):Prop:=
 ∃pa cap,v=.slice pa n cap/\(0<n->pa=some ⟨g,0,none⟩/\n<=cap)/\∀i,i<n->Cel W g (i*6) (A i)
theorem Cel.block{o:Nat}{a:Tv}(h:Cel W g o a)(hb:W'.heap[g]? =W.heap[g]?):Cel W' g o a:=by
 have e:∀j,W'.cell? ⟨g,j,none⟩=W.cell? ⟨g,j,none⟩:=λj=>World.cell?_of_block hb;exact⟨by rw[e];exact h.c0,by rw[e];exact h.c1,by rw[e];exact h.c2,by rw[e];exact h.c3,by rw[e];exact h.c4,by rw[e];exact h.c5⟩
theorem RowC.block{A:Nat->Tv}(h:RowC W v g n A)(hb:W'.heap[g]? =W.heap[g]?):RowC W' v g n A:=by
 obtain⟨pa,cap,h1,h2,h3⟩:=h;exact⟨pa,cap,h1,h2,λi hi=>(h3 i hi).block hb⟩
theorem Cel.lt{o:Nat}{a:Tv}(h:Cel W g o a):g<W.heap.size:=by
 have:=h.c0;exact Rd.lt_of_cell this
theorem set_ne(W:World)(g o o':Nat)(v:Value)(h:o'≠o):(W.setCell ⟨g,o,none⟩ v).cell? ⟨g,o',none⟩=W.cell? ⟨g,o',none⟩:=
 World.cell?_setCell_other _ _ _ _ (λe=>h (congrArg Addr.off e).symm)
theorem set_eq(W:World)(g o:Nat)(v u:Value)(h:W.cell? ⟨g,o,none⟩=some u):(W.setCell ⟨g,o,none⟩ v).cell? ⟨g,o,none⟩=some v:=
 World.cell?_setCell_same _ _ _ h
theorem set_fz(W:World)(g o o':Nat)(v:Value):(W.setCell ⟨g,o,none⟩ v).frozen? ⟨g,o',none⟩=W.frozen? ⟨g,o',none⟩:=by simp
def mkT(i:Nat):Tv:=⟨1+6*(i:Int),1+6*(i:Int)+1,1+6*(i:Int)+1+1,1+6*(i:Int)+1+1+1,1+6*(i:Int)+1+1+1+1,⟨#[109]⟩++mtl (6*i+6) ⟨#[]⟩⟩
def s5(W:World)(g o:Nat)(k:Int):World:=((((W.setCell ⟨g,o,none⟩ (.int .i64 k)).setCell ⟨g,o+1,none⟩ (.int .i64 (k+1))).setCell ⟨g,o+2,none⟩ (.int .i64 (k+1+1))).setCell ⟨g,o+3,none⟩ (.int .i64 (k+1+1+1))).setCell ⟨g,o+4,none⟩ (.int .i64 (k+1+1+1+1))
theorem s5_ne(W:World)(g o:Nat)(k:Int)(o':Nat)(h:o'<o\/o+4<o'):(s5 W g o k).cell? ⟨g,o',none⟩=W.cell? ⟨g,o',none⟩:=by
 unfold s5;rw[set_ne _ _ _ _ _ (by omega),set_ne _ _ _ _ _ (by omega),set_ne _ _ _ _ _ (by omega),set_ne _ _ _ _ _ (by omega),set_ne _ _ _ _ _ (by omega)]
theorem s5_in{o:Nat}{a:Tv}(h:Cel W g o a)(k:Int):(s5 W g o k).cell? ⟨g,o,none⟩=some (.int .i64 k)/\(s5 W g o k).cell? ⟨g,o+1,none⟩=some (.int .i64 (k+1))/\(s5 W g o k).cell? ⟨g,o+2,none⟩=some (.int .i64 (k+1+1))/\(s5 W g o k).cell? ⟨g,o+3,none⟩=some (.int .i64 (k+1+1+1))/\(s5 W g o k).cell? ⟨g,o+4,none⟩=some (.int .i64 (k+1+1+1+1)):=by
 unfold s5;refine⟨?_,?_,?_,?_,?_⟩
 ·rw[set_ne _ _ _ _ _ (by omega),set_ne _ _ _ _ _ (by omega),set_ne _ _ _ _ _ (by omega),set_ne _ _ _ _ _ (by omega)];exact set_eq _ _ _ _ _ h.c0
 ·rw[set_ne _ _ _ _ _ (by omega),set_ne _ _ _ _ _ (by omega),set_ne _ _ _ _ _ (by omega)];exact set_eq _ _ _ _ _ (by rw[set_ne _ _ _ _ _ (by omega)];exact h.c1)
 ·rw[set_ne _ _ _ _ _ (by omega),set_ne _ _ _ _ _ (by omega)];exact set_eq _ _ _ _ _ (by rw[set_ne _ _ _ _ _ (by omega),set_ne _ _ _ _ _ (by omega)];exact h.c2)
 ·rw[set_ne _ _ _ _ _ (by omega)];exact set_eq _ _ _ _ _ (by rw[set_ne _ _ _ _ _ (by omega),set_ne _ _ _ _ _ (by omega),set_ne _ _ _ _ _ (by omega)];exact h.c3)
 ·exact set_eq _ _ _ _ _ (by rw[set_ne _ _ _ _ _ (by omega),set_ne _ _ _ _ _ (by omega),set_ne _ _ _ _ _ (by omega),set_ne _ _ _ _ _ (by omega)];exact h.c4)
theorem s5_kb(W:World)(g o:Nat)(k:Int):Kb g W (s5 W g o k):=by
 unfold s5;exact((((((Kb.refl g W).setCell _ _).setCell _ _).setCell _ _).setCell _ _).setCell _ _)
theorem s5_fz(h:∀j,W.frozen? ⟨g,j,none⟩=false)(o:Nat)(k:Int)(j:Nat):(s5 W g o k).frozen? ⟨g,j,none⟩=false:=by
 unfold s5;simp[h j]
structure MkI (w:World) (g n:Nat) (A:Nat->Tv) (i:Nat) (W:World):Prop where
 kb:Kb g w W
 don:∀i',i'<i->Cel W g (i'*6) (mkT i')
 rest:∀i',i<=i'->i'<n->Cel W g (i'*6) (A i')
 fz:∀j,W.frozen? ⟨g,j,none⟩=false
theorem MkI.step{w w6:World}{A:Nat->Tv}(h:MkI w g n A i W)(hi:i<n)(k:Int)(hk:k=1+6*(i:Int))(hb:Below (s5 W g (i*6) k).heap.size (s5 W g (i*6) k) w6):
  w6.cell? ⟨g,i*6+5,none⟩=some (.string (A i).x)/\w6.frozen? ⟨g,i*6+5,none⟩=false/\MkI w g n A (i+1) (w6.setCell ⟨g,i*6+5,none⟩ (.string (mkT i).x)):=by
 have hc:=h.rest i (Nat.le_refl _) hi;have hlt:g<(s5 W g (i*6) k).heap.size:=Nat.lt_of_lt_of_le hc.lt (s5_kb W g (i*6) k).size;have e6:∀j,w6.cell? ⟨g,j,none⟩=(s5 W g (i*6) k).cell? ⟨g,j,none⟩:=λj=>World.cell?_of_block (hb.block g hlt);have f6:∀j,w6.frozen? ⟨g,j,none⟩=false:=λj=>by rw[World.frozen?_of_block (hb.block g hlt)];exact s5_fz h.fz _ _ _
 have c5:w6.cell? ⟨g,i*6+5,none⟩=some (.string (A i).x):=by rw[e6,s5_ne _ _ _ _ _ (by omega)];exact hc.c5
 obtain⟨i0,i1,i2,i3,i4⟩:=s5_in hc k
 have far:∀{o:Nat} {a:Tv},(o+6<=i*6\/i*6+6<=o)->Cel W g o a->Cel (w6.setCell ⟨g,i*6+5,none⟩ (.string (mkT i).x)) g o a:=by
  intro o a ho hca;refine⟨?_,?_,?_,?_,?_,?_⟩
  ·rw[set_ne _ _ _ _ _ (by omega),e6,s5_ne _ _ _ _ _ (by omega)];exact hca.c0
  ·rw[set_ne _ _ _ _ _ (by omega),e6,s5_ne _ _ _ _ _ (by omega)];exact hca.c1
  ·rw[set_ne _ _ _ _ _ (by omega),e6,s5_ne _ _ _ _ _ (by omega)];exact hca.c2
  ·rw[set_ne _ _ _ _ _ (by omega),e6,s5_ne _ _ _ _ _ (by omega)];exact hca.c3
  ·rw[set_ne _ _ _ _ _ (by omega),e6,s5_ne _ _ _ _ _ (by omega)];exact hca.c4
  ·rw[set_ne _ _ _ _ _ (by omega),e6,s5_ne _ _ _ _ _ (by omega)];exact hca.c5
 refine⟨c5,f6 _,⟨((h.kb.trans (s5_kb W g (i*6) k)).trans (Kb.of_below hb (Nat.le_refl _))).setCell _ _,?_,?_,?_⟩⟩
 ·intro i' hi';by_cases e:i'=i
  ·subst e;subst hk;refine⟨?_,?_,?_,?_,?_,?_⟩
   ·rw[set_ne _ _ _ _ _ (by omega),e6];exact i0
   ·rw[set_ne _ _ _ _ _ (by omega),e6];exact i1
   ·rw[set_ne _ _ _ _ _ (by omega),e6];exact i2
   ·rw[set_ne _ _ _ _ _ (by omega),e6];exact i3
   ·rw[set_ne _ _ _ _ _ (by omega),e6];exact i4
   ·exact set_eq _ _ _ _ _ c5
  ·exact far (by omega) (h.don i' (by omega))
 ·intro i' h1 h2;exact far (by omega) (h.rest i' (by omega) h2)
 ·intro j;rw[set_fz];exact f6 j
theorem RowC.mono{A:Nat->Tv}(h:RowC W v g n A)(hb:0<n->W'.heap[g]? =W.heap[g]?):RowC W' v g n A:=by
 obtain⟨pa,cap,h1,h2,h3⟩:=h;exact⟨pa,cap,h1,h2,λi hi=>(h3 i hi).block (hb (by omega))⟩
theorem RowC.lt{A:Nat->Tv}(h:RowC W v g n A)(hn:0<n):g<W.heap.size:=by
 obtain⟨pa,cap,h1,h2,h3⟩:=h;exact(h3 0 hn).lt
theorem RowC.kb{A:Nat->Tv}(h:RowC W v g n A)(hk:Kb B W W')(hB:0<n->g≠B):RowC W' v g n A:=
 h.mono λhn=>hk.block g (h.lt hn) (hB hn)
theorem flat_get (tk:Nat->Tk):∀(xs:List (Nat×Int)) (i j:Nat) (x:Nat×Int),xs[i]? =some x->j<6->(xs.flatMap (tcs tk))[i*6+j]? =(tcs tk x)[j]?
 | [],i,j,x,h,_=>by simp at h
 |y::r,i,j,x,h,hj=>by
  rw[List.flatMap_cons];have hl:(tcs tk y).length=6:=rfl;cases i with
  |zero=>
   have:y=x:=by simpa using h
   subst this;rw[Nat.zero_mul,Nat.zero_add,List.getElem?_append_left (by omega)]
  |succ i=>
   rw[List.getElem?_append_right (by omega),hl,show(i+1)*6+j-6=i*6+j by omega];exact flat_get tk r i j x (by simpa using h) hj
def tvs(tk:Nat->Tk)(xs:List (Nat×Int))(i:Nat):Tv:=match xs[i]? with
 |some x=>⟨(tk x.1).kind,x.1,(tk x.1).to,x.2,(tk x.1).num,(tk x.1).text⟩
 |none=>⟨0,0,0,0,0,⟨#[]⟩⟩
theorem addr_add(g m:Nat):(⟨g,0,none⟩:Addr).add m=⟨g,m,none⟩:=by
 unfold Addr.add;split
 ·rename_i h
  have h2:m=0:=by simpa using h
  rw[h2]
 ·simp
def Own(W:World)(base:Nat)(v:Value)(n:Nat)(A:Nat->Tv):Prop:=∃g,RowC W v g n A/\(0<n->base<=g/\∀j,W.frozen? ⟨g,j,none⟩=false)
theorem own_row{base:Nat}{tk:Nat->Tk}{xs:List (Nat×Int)}(h:W.ownsRow base 125 6 v xs.length (xs.flatMap (tcs tk))):Own W base v xs.length (tvs tk xs):=by
 rcases h.2 with⟨rfl,h0⟩|⟨g,cap,cur,rfl,h1,h2,h3,h4,h5,h6⟩
 ·exact⟨0,⟨none,0,by rw[h0],λg=>by omega,λi hi=>by omega⟩,λg=>by omega⟩
 ·refine⟨g,⟨_,cap,rfl,λ_=>⟨rfl,h3⟩,λi hi=>?_⟩,λ_=>⟨h1,λj=>by simp[World.frozen?,h2]⟩⟩;have hx:=List.getElem?_eq_getElem hi;have e:tvs tk xs i=⟨(tk (xs[i]).1).kind,(xs[i]).1,(tk (xs[i]).1).to,(xs[i]).2,(tk (xs[i]).1).num,(tk (xs[i]).1).text⟩:=by unfold tvs;rw[hx]
  have c:∀j u,j<6->(tcs tk xs[i])[j]? =some u->W.cell? ⟨g,i*6+j,none⟩=some u:=by
   intro j u hj hu;have:=h.cells (g:=g) rfl (i*6+j) u (by rw[flat_get tk xs i j _ hx hj];exact hu);rw[addr_add]at this;exact this
  rw[e];exact⟨c 0 _ (by omega) rfl,c 1 _ (by omega) rfl,c 2 _ (by omega) rfl,c 3 _ (by omega) rfl,c 4 _ (by omega) rfl,c 5 _ (by omega) rfl⟩
theorem own_nil(W:World)(base:Nat)(A:Nat->Tv):Own W base (.slice none 0 0) 0 A:=⟨0,⟨none,0,rfl,λg=>by omega,λi hi=>by omega⟩,λg=>by omega⟩
def Blk(W:World)(b:Nat)(o:Bool)(a:Int)(v:Value):Prop:=W.heap[b]? =some (.cells #[.bool o,.int .i64 a,v] 174 (0,0))
theorem Blk.new(W:World)(o:Bool)(a:Int)(v:Value):Blk (W.alloc (.cells #[.bool o,.int .i64 a,v] 174)) W.heap.size o a v:=World.alloc_heap_new W _
theorem Blk.c0(h:Blk W b o a v):W.cell? ⟨b,0,none⟩=some (.bool o):=by unfold Blk at h;simp[World.cell?,h]
theorem Blk.c1(h:Blk W b o a v):W.cell? ⟨b,1,none⟩=some (.int .i64 a):=by unfold Blk at h;simp[World.cell?,h]
theorem Blk.c2(h:Blk W b o a v):W.cell? ⟨b,2,none⟩=some v:=by unfold Blk at h;simp[World.cell?,h]
theorem Blk.lt(h:Blk W b o a v):b<W.heap.size:=(Array.getElem?_eq_some_iff.1 h).1
theorem Blk.kb(h:Blk W b o a v)(hk:Kb B W W')(hB:b≠B):Blk W' b o a v:=(hk.block b h.lt hB).trans h
theorem Kb.new(B:Nat)(W:World)(x:Obj):Kb B W (W.alloc x):=Kb.of_below ((Below.refl _ W).alloc (Nat.le_refl _) _) (Nat.le_refl _)
theorem run_len{tk:Nat->Tk}(ok:TkOk L tk){p:Nat}{l:Int}{xs:List (Nat×Int)}{e:Nat}{st:Bool}(h:Run L tk p l xs e st):p<=L.length->xs.length+p<=L.length:=by
 induction h with
 |fin p l h=>intro hp;simp;omega
 |bad p l h hk=>intro hp;simp;omega
 |step p l ts e st h hk hr ih=>
  intro hp;have h1:=ok.lt p h hk;have h2:=ok.le p h;have h3:=bl_le L _ h2;have h4:=bl_ge L (tk p).to;have:=ih h3
  simp
  omega
theorem kept_new(w:World)(x:Obj):Rd.Kept w (w.alloc x):=Kb.kept (B:=w.heap.size) (Kb.new _ _ _) (Nat.le_refl _)
theorem tok_big(T:ByteArray)(kk f t l nn:Int)(hs:(40:Int)<(T.size:Int))(w:World):
  Calls Tryz.prog 128 #[.agg #[.int .i64 kk,.int .i64 f,.int .i64 t,.int .i64 l,.int .i64 nn,.string T],.int .i64 40] w λe w'=>e=.returned (.string ⟨#[]⟩)/\Rd.Kept w w':=by
 go_enter Tryz.func128,Tryz.ntmps128;go_wp2_with fail;go_ret;exact⟨rfl,kept_new _ _⟩
theorem impl_tok(T:ByteArray)(kk f t l nn:Int)(hs:¬(40:Int)<(T.size:Int))(o:Bool)(a:Int)(n:Nat)(A:Nat->Tv)
    (H6:∀w,Gd w->Calls Tryz.prog 133 #[.string T] w λe w'=>Rd.Kept w w'/\∃v,e=.returned (.agg #[.bool o,.int .i64 a,v])/\Own w' w.heap.size v n A) (R:ByteArray)
    (hR:(n=1/\(A 0).k=kk/\(A 0).x=T/\R=T)\/((n=1->(A 0).k=kk->(A 0).x≠T)/\R=⟨#[]⟩)) (w:World) (hg:Gd w):
    Calls Tryz.prog 128 #[.agg #[.int .i64 kk,.int .i64 f,.int .i64 t,.int .i64 l,.int .i64 nn,.string T],.int .i64 40] w λe w'=>e=.returned (.string R)/\Rd.Kept w w':=by
  obtain⟨W0,hW0,HK0,hc0,hc5⟩:∃W0,W0=w.alloc (.cells #[.int .i64 kk,.int .i64 f,.int .i64 t,.int .i64 l,.int .i64 nn,.string T] 125)/\Hid (∀B,Kb B w W0)/\W0.cell? ⟨w.heap.size,0,none⟩=some (.int .i64 kk)/\W0.cell? ⟨w.heap.size,5,none⟩=some (.string T):=
    ⟨_,rfl,(λB=>Kb.new B _ _:∀B,Kb B w _),by simp,by simp⟩
  have h6:=H6 W0 (hg.kb (B:=w.heap.size) hg.size (HK0 _));have HR:Hid ((n=1/\(A 0).k=kk/\(A 0).x=T/\R=T)\/((n=1->(A 0).k=kk->(A 0).x≠T)/\R=⟨#[]⟩)):=hR;have hlt0:w.heap.size<W0.heap.size:=by rw[hW0];simp
  clear H6 hR hg;go_enter Tryz.func128,Tryz.ntmps128;go_upto_region 1 with fail;rw[<-hW0];clear hW0;go_wp2_with fail;refine h6.mono ?_;rintro e w2 ⟨hk2,v2,rfl,g,hr2,hf2⟩;obtain⟨p2,k2,hv2,hp2,hce⟩:=hr2;subst hv2;obtain⟨W2,hW2,HK2,hq⟩:∃W2,W2=w2.alloc (.cells #[.bool o,.int .i64 a,.slice p2 n k2] 174)/\Hid (∀B,Kb B w2 W2)/\Blk W2 w2.heap.size o a (.slice p2 n k2):=⟨_,rfl,(λB=>Kb.new B _ _:∀B,Kb B w2 _),Blk.new _ _ _ _⟩
  have HKW:Hid (∀B,Kb B W0 W2):=(λB=>(Kb.of_kept hk2).trans (HK2 B):∀B,Kb B W0 W2)
  have HEND:Hid (∀m m',Rd.Kept w ((W2.drewN m).drewN m')):=(λm m'=>Kb.kept (B:=w.heap.size) ((((HK0 _).trans (HKW _)).drewN m).drewN m') (Nat.le_refl _):∀m m',Rd.Kept w ((W2.drewN m).drewN m'))
  have b0:W2.cell? ⟨w.heap.size,0,none⟩=some (.int .i64 kk):=by rw[World.cell?_of_block ((HKW (w.heap.size+1)).block w.heap.size hlt0 (by omega))];exact hc0
  have b5:W2.cell? ⟨w.heap.size,5,none⟩=some (.string T):=by rw[World.cell?_of_block ((HKW (w.heap.size+1)).block w.heap.size hlt0 (by omega))];exact hc5
  have q2:=hq.c2
  have HCE:Hid (0<n->p2=some ⟨g,0,none⟩/\n<=k2/\W2.cell? ⟨g,0,none⟩=some (.int .i64 (A 0).k)/\W2.cell? ⟨g,5,none⟩=some (.string (A 0).x)):=(λh0=>by
    have h1:=hp2 h0;have h2:=(hce 0 h0).block ((HK2 (g+1)).block g (hce 0 h0).lt (by omega))
    exact⟨h1.1,h1.2,by simpa using h2.c0,by simpa using h2.c5⟩:0<n->_)
  clear h6 hk2 hf2 hp2 hce hc0 hc5 HK2 HKW HK0 hq;go_upto_region 4 with fail;rw[<-hW2];clear hW2;by_cases h1:n=1
  · subst h1;obtain⟨rfl,hck,d0,d5⟩:=(uh HCE) (by omega)
    clear HCE;by_cases h2:(A 0).k=kk
    · rw[h2]at d0;by_cases h3:(A 0).x=T
      · have HRR : Hid (R = T) := by
          rcases(uh HR)with⟨_,_,_,h⟩|⟨h,_⟩
          · exact h
          · exact absurd h3 (h rfl h2)
        rw[h3]at d5;clear HR h2 h3
        go_quiet (fail)
        go_wp2_with fail
        go_quiet (fail)
        go_wp2_with fail;go_ret;exact⟨by rw[show R=T from HRR];rfl,(uh HEND) _ 0⟩
      · have HRR : Hid (R = ⟨#[]⟩) := by
          rcases(uh HR)with⟨_,_,h,_⟩|⟨_,h⟩
          · exact absurd h h3
          · exact h
        have hne:((A 0).x.toList==T.toList)=false:=by
          rw[cmp_list];apply Bool.eq_false_iff.2;intro g;apply h3;have:=eq_of_beq g;exact ByteArray.ext (Array.toList_inj.1 this)
        clear HR h2 h3;generalize (A 0).x=X at*
        go_quiet (fail)
        go_wp2_with fail
        go_quiet (fail)
        go_wp2_with fail;go_ret;exact⟨by rw[show R=⟨#[]⟩from HRR];rfl,(uh HEND) _ 0⟩
    · have HRR : Hid (R = ⟨#[]⟩) := by
        rcases(uh HR)with⟨_,h,_⟩|⟨_,h⟩
        · exact absurd h h2
        · exact h
      have hne:((A 0).k !=kk)=true:=by simpa using h2
      clear HR h2;generalize (A 0).k=xk at*;generalize (A 0).x=X at*
      go_quiet (fail)
      go_wp2_with fail;go_ret;exact⟨by rw[show R=⟨#[]⟩from HRR];rfl,(uh HEND) _ 0⟩
  · have HRR : Hid (R = ⟨#[]⟩) := by
      rcases(uh HR)with⟨h,_⟩|⟨_,h⟩
      · exact absurd h h1
      · exact h
    have hne:((n:Int) !=1)=true:=by simp;omega
    clear HR h1 HCE
    go_quiet (fail)
    go_wp2_with fail;go_ret;exact⟨by rw[show R=⟨#[]⟩from HRR];rfl,(uh HEND) _ 0⟩
