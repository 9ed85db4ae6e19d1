import Derived.Test.YtohbcpfjjimdnaaGreatDoorMEfd
set_option maxHeartbeats 8000000
namespace Go.Proofs.YtohbcpfjjimdnaaGreatDoor.Fo
open Go.ChangeShapes Go.WideShapes Go.ChangeAt Go.RowKit
set_option linter.unusedVariables false
set_option maxRecDepth 100000
variable {W W':World}{g n E gx B:Nat}{F:Nat->Pd}
theorem mark_ups(k:Int)(h1:1<=k)(h2:k<=500000000)(hn:n<=1048576)(hc:∀j,j<n*2->∃u,W.cell? ⟨g,j,none⟩=some u)(hf:∀j,W.frozen? ⟨g,j,none⟩=false)(hg:g<W.heap.size):
  Calls Tryz.prog 51 #[.slice (some ⟨g,0,none⟩) n n,.int .i64 k] W λe w'=>e=.returned (.int .i64 (k+2*(n:Int)))/\K1 g W w':=by
 have hst:=hst0;have HH:Hid ((∀j,j<n*2->∃u,W.cell? ⟨g,j,none⟩=some u)/\(∀j,W.frozen? ⟨g,j,none⟩=false)/\g<W.heap.size):=(⟨hc,hf,hg⟩:_/\_)
 have hnI:(n:Int)<=1048576:=by omega
 clear hc hf hg hn;go_enter Tryz.func51,Tryz.ntmps51;go_wp2_with fail
 go_loopw [1,5] (λs1 s5 wr=>∃i:Nat,i<=n/\s5=.int .i64 i/\s1=.int .i64 (k+2*(i:Int))/\Hid (K1 g W wr)) (λ_ s5 _=>n-(intOf s5).toNat)
 case atStart=>exact⟨0,by omega,rfl,by simp,K1.refl _ _⟩
 case round=>
  obtain⟨i,hi,rfl,rfl,HK⟩:=hrel;obtain⟨hc,hf,hg⟩:=(uh HH)
  by_cases hin:i<n
  ·have hI:(i:Int)<(n:Int):=by omega
   have hb:i*2+2<=n*2:=by have:=Nat.mul_le_mul_right 2 (show i+1<=n from hin);rw[Nat.succ_mul]at this;exact this
   obtain⟨K,hK⟩:∃K:Int,K=k+2*(i:Int):=⟨_,rfl⟩
   have hK1:1<=K:=by omega
   have hK2:K<=600000000:=by omega
   have HKK:Hid (K=k+2*(i:Int)/\i*2+2<=n*2):=(⟨hK,hb⟩:_/\_)
   rw[<-hK];clear hc hf hg hK hb;obtain⟨u0,cu0⟩:=(uh HK).cell (i*2+0) ((uh HH).1 _ (by have:=(uh HKK).2;omega));have cf0:wr.frozen? ⟨g,i*2+0,none⟩=false:=((uh HK).fz _ (uh HH).2.2).trans ((uh HH).2.1 _);rw[Nat.add_zero]at cu0 cf0;go_upto_region 5 with fail;generalize hy:World.setCell wr _ _=y0;have HK0:Hid (K1 g W y0):=by rw[<-hy];exact(uh HK).trans (K1.set1 _ _ _ _)
   clear hy cu0 cf0 u0 HK;obtain⟨u1,cu1⟩:=(uh HK0).cell (i*2+1) ((uh HH).1 _ (by have:=(uh HKK).2;omega));have cf1:y0.frozen? ⟨g,i*2+1,none⟩=false:=((uh HK0).fz _ (uh HH).2.2).trans ((uh HH).2.1 _);go_upto_region 7 with fail;generalize hy:World.setCell y0 _ _=y1;have HK1:Hid (K1 g W y1):=by rw[<-hy];exact(uh HK0).trans (K1.set1 _ _ _ _)
   clear hy cu1 cf1 u1 HK0;go_wp2_with fail;go_roundw
   case rel=>exact⟨i+1,by omega,by go_num,by rw[(uh HKK).1];congr 1;omega,HK1⟩
   case measure=>simp[intOf];omega
  ·obtain rfl:i=n:=by omega
   have hI:¬(i:Int)<(i:Int):=by omega
   clear hc hf hg HH;go_wp2_with fail;go_ret;exact⟨rfl,HK⟩
theorem mark_inss(k:Int)(h1:1<=k)(h2:k<=500000000)(hn:n<=1048576)(hc:∀j,j<n*5->∃u,W.cell? ⟨g,j,none⟩=some u)(hf:∀j,W.frozen? ⟨g,j,none⟩=false)(hg:g<W.heap.size):
  Calls Tryz.prog 53 #[.slice (some ⟨g,0,none⟩) n n,.int .i64 k] W λe w'=>e=.returned (.int .i64 (k+5*(n:Int)))/\K1 g W w':=by
 have hst:=hst0;have HH:Hid ((∀j,j<n*5->∃u,W.cell? ⟨g,j,none⟩=some u)/\(∀j,W.frozen? ⟨g,j,none⟩=false)/\g<W.heap.size):=(⟨hc,hf,hg⟩:_/\_)
 have hnI:(n:Int)<=1048576:=by omega
 clear hc hf hg hn;go_enter Tryz.func53,Tryz.ntmps53;go_wp2_with fail
 go_loopw [1,5] (λs1 s5 wr=>∃i:Nat,i<=n/\s5=.int .i64 i/\s1=.int .i64 (k+5*(i:Int))/\Hid (K1 g W wr)) (λ_ s5 _=>n-(intOf s5).toNat)
 case atStart=>exact⟨0,by omega,rfl,by simp,K1.refl _ _⟩
 case round=>
  obtain⟨i,hi,rfl,rfl,HK⟩:=hrel;obtain⟨hc,hf,hg⟩:=(uh HH)
  by_cases hin:i<n
  ·have hI:(i:Int)<(n:Int):=by omega
   have hb:i*5+5<=n*5:=by have:=Nat.mul_le_mul_right 5 (show i+1<=n from hin);rw[Nat.succ_mul]at this;exact this
   obtain⟨K,hK⟩:∃K:Int,K=k+5*(i:Int):=⟨_,rfl⟩
   have hK1:1<=K:=by omega
   have hK2:K<=600000000:=by omega
   have HKK:Hid (K=k+5*(i:Int)/\i*5+5<=n*5):=(⟨hK,hb⟩:_/\_)
   rw[<-hK];clear hc hf hg hK hb;obtain⟨u0,cu0⟩:=(uh HK).cell (i*5+0) ((uh HH).1 _ (by have:=(uh HKK).2;omega));have cf0:wr.frozen? ⟨g,i*5+0,none⟩=false:=((uh HK).fz _ (uh HH).2.2).trans ((uh HH).2.1 _);rw[Nat.add_zero]at cu0 cf0;go_upto_region 5 with fail;generalize hy:World.setCell wr _ _=y0;have HK0:Hid (K1 g W y0):=by rw[<-hy];exact(uh HK).trans (K1.set1 _ _ _ _)
   clear hy cu0 cf0 u0 HK;obtain⟨u1,cu1⟩:=(uh HK0).cell (i*5+1) ((uh HH).1 _ (by have:=(uh HKK).2;omega));have cf1:y0.frozen? ⟨g,i*5+1,none⟩=false:=((uh HK0).fz _ (uh HH).2.2).trans ((uh HH).2.1 _);go_upto_region 7 with fail;generalize hy:World.setCell y0 _ _=y1;have HK1:Hid (K1 g W y1):=by rw[<-hy];exact(uh HK0).trans (K1.set1 _ _ _ _)
   clear hy cu1 cf1 u1 HK0;obtain⟨u2,cu2⟩:=(uh HK1).cell (i*5+2) ((uh HH).1 _ (by have:=(uh HKK).2;omega));have cf2:y1.frozen? ⟨g,i*5+2,none⟩=false:=((uh HK1).fz _ (uh HH).2.2).trans ((uh HH).2.1 _);go_upto_region 9 with fail;generalize hy:World.setCell y1 _ _=y2;have HK2:Hid (K1 g W y2):=by rw[<-hy];exact(uh HK1).trans (K1.set1 _ _ _ _)
   clear hy cu2 cf2 u2 HK1;obtain⟨u3,cu3⟩:=(uh HK2).cell (i*5+3) ((uh HH).1 _ (by have:=(uh HKK).2;omega));have cf3:y2.frozen? ⟨g,i*5+3,none⟩=false:=((uh HK2).fz _ (uh HH).2.2).trans ((uh HH).2.1 _);go_upto_region 11 with fail;generalize hy:World.setCell y2 _ _=y3;have HK3:Hid (K1 g W y3):=by rw[<-hy];exact(uh HK2).trans (K1.set1 _ _ _ _)
   clear hy cu3 cf3 u3 HK2;obtain⟨u4,cu4⟩:=(uh HK3).cell (i*5+4) ((uh HH).1 _ (by have:=(uh HKK).2;omega));have cf4:y3.frozen? ⟨g,i*5+4,none⟩=false:=((uh HK3).fz _ (uh HH).2.2).trans ((uh HH).2.1 _);go_upto_region 13 with fail;generalize hy:World.setCell y3 _ _=y4;have HK4:Hid (K1 g W y4):=by rw[<-hy];exact(uh HK3).trans (K1.set1 _ _ _ _)
   clear hy cu4 cf4 u4 HK3;go_wp2_with fail;go_roundw
   case rel=>exact⟨i+1,by omega,by go_num,by rw[(uh HKK).1];congr 1;omega,HK4⟩
   case measure=>simp[intOf];omega
  ·obtain rfl:i=n:=by omega
   have hI:¬(i:Int)<(i:Int):=by omega
   clear hc hf hg HH;go_wp2_with fail;go_ret;exact⟨rfl,HK⟩
theorem mark_nams(k:Int)(h1:1<=k)(h2:k<=500000000)(hn:n<=1048576)(hc:∀j,j<n*4->∃u,W.cell? ⟨g,j,none⟩=some u)(hf:∀j,W.frozen? ⟨g,j,none⟩=false)(hg:g<W.heap.size):
  Calls Tryz.prog 54 #[.slice (some ⟨g,0,none⟩) n n,.int .i64 k] W λe w'=>e=.returned (.int .i64 (k+4*(n:Int)))/\K1 g W w':=by
 have hst:=hst0;have HH:Hid ((∀j,j<n*4->∃u,W.cell? ⟨g,j,none⟩=some u)/\(∀j,W.frozen? ⟨g,j,none⟩=false)/\g<W.heap.size):=(⟨hc,hf,hg⟩:_/\_)
 have hnI:(n:Int)<=1048576:=by omega
 clear hc hf hg hn;go_enter Tryz.func54,Tryz.ntmps54;go_wp2_with fail
 go_loopw [1,5] (λs1 s5 wr=>∃i:Nat,i<=n/\s5=.int .i64 i/\s1=.int .i64 (k+4*(i:Int))/\Hid (K1 g W wr)) (λ_ s5 _=>n-(intOf s5).toNat)
 case atStart=>exact⟨0,by omega,rfl,by simp,K1.refl _ _⟩
 case round=>
  obtain⟨i,hi,rfl,rfl,HK⟩:=hrel;obtain⟨hc,hf,hg⟩:=(uh HH)
  by_cases hin:i<n
  ·have hI:(i:Int)<(n:Int):=by omega
   have hb:i*4+4<=n*4:=by have:=Nat.mul_le_mul_right 4 (show i+1<=n from hin);rw[Nat.succ_mul]at this;exact this
   obtain⟨K,hK⟩:∃K:Int,K=k+4*(i:Int):=⟨_,rfl⟩
   have hK1:1<=K:=by omega
   have hK2:K<=600000000:=by omega
   have HKK:Hid (K=k+4*(i:Int)/\i*4+4<=n*4):=(⟨hK,hb⟩:_/\_)
   rw[<-hK];clear hc hf hg hK hb;obtain⟨u0,cu0⟩:=(uh HK).cell (i*4+0) ((uh HH).1 _ (by have:=(uh HKK).2;omega));have cf0:wr.frozen? ⟨g,i*4+0,none⟩=false:=((uh HK).fz _ (uh HH).2.2).trans ((uh HH).2.1 _);rw[Nat.add_zero]at cu0 cf0;have HT:=mark_text (K).toNat (by omega) (by omega) wr;rw[Int.toNat_of_nonneg (by omega)]at HT;generalize (⟨#[109]⟩++mtl (K).toNat ⟨#[]⟩:ByteArray)=tx0 at HT;have HCU:Hid (∀W',Below wr.heap.size wr W'->W'.cell? ⟨g,i*4,none⟩=some u0/\W'.frozen? ⟨g,i*4,none⟩=false/\K1 g W W'):=(λW' b=>⟨(Kb.of_below b 0).cell cu0,((Kb.of_below b 0).frozen zq (World.block_lt_of_cell? _ _ cu0)).trans cf0,(uh HK).trans (K1.of_kb (Kb.of_below b 0))⟩:∀W',_)
   clear cu0 cf0;go_upto_region 5 with(go_at_call 50;refine HT.mono ?_;rintro e z0 ⟨rfl,bz⟩;obtain⟨cu0,cf0,kz⟩:=(uh HCU) z0 bz);have HKZ:Hid (K1 g W z0):=kz;clear HT bz HCU kz HK;generalize hy:World.setCell z0 _ _=y0;have HK0:Hid (K1 g W y0):=by rw[<-hy];exact(uh HKZ).trans (K1.set1 _ _ _ _)
   clear hy cu0 cf0 u0 HKZ;obtain⟨u1,cu1⟩:=(uh HK0).cell (i*4+1) ((uh HH).1 _ (by have:=(uh HKK).2;omega));have cf1:y0.frozen? ⟨g,i*4+1,none⟩=false:=((uh HK0).fz _ (uh HH).2.2).trans ((uh HH).2.1 _);go_upto_region 7 with fail;generalize hy:World.setCell y0 _ _=y1;have HK1:Hid (K1 g W y1):=by rw[<-hy];exact(uh HK0).trans (K1.set1 _ _ _ _)
   clear hy cu1 cf1 u1 HK0;obtain⟨u2,cu2⟩:=(uh HK1).cell (i*4+2) ((uh HH).1 _ (by have:=(uh HKK).2;omega));have cf2:y1.frozen? ⟨g,i*4+2,none⟩=false:=((uh HK1).fz _ (uh HH).2.2).trans ((uh HH).2.1 _);go_upto_region 9 with fail;generalize hy:World.setCell y1 _ _=y2;have HK2:Hid (K1 g W y2):=by rw[<-hy];exact(uh HK1).trans (K1.set1 _ _ _ _)
   clear hy cu2 cf2 u2 HK1;obtain⟨u3,cu3⟩:=(uh HK2).cell (i*4+3) ((uh HH).1 _ (by have:=(uh HKK).2;omega));have cf3:y2.frozen? ⟨g,i*4+3,none⟩=false:=((uh HK2).fz _ (uh HH).2.2).trans ((uh HH).2.1 _);go_upto_region 11 with fail;generalize hy:World.setCell y2 _ _=y3;have HK3:Hid (K1 g W y3):=by rw[<-hy];exact(uh HK2).trans (K1.set1 _ _ _ _)
   clear hy cu3 cf3 u3 HK2;go_wp2_with fail;go_roundw
   case rel=>exact⟨i+1,by omega,by go_num,by rw[(uh HKK).1];congr 1;omega,HK3⟩
   case measure=>simp[intOf];omega
  ·obtain rfl:i=n:=by omega
   have hI:¬(i:Int)<(i:Int):=by omega
   clear hc hf hg HH;go_wp2_with fail;go_ret;exact⟨rfl,HK⟩
theorem mark_vals(k:Int)(h1:1<=k)(h2:k<=500000000)(hn:n<=1048576)(hc:∀j,j<n*5->∃u,W.cell? ⟨g,j,none⟩=some u)(hf:∀j,W.frozen? ⟨g,j,none⟩=false)(hg:g<W.heap.size):
  Calls Tryz.prog 52 #[.slice (some ⟨g,0,none⟩) n n,.int .i64 k] W λe w'=>e=.returned (.int .i64 (k+5*(n:Int)))/\K1 g W w':=by
 have hst:=hst0;have HH:Hid ((∀j,j<n*5->∃u,W.cell? ⟨g,j,none⟩=some u)/\(∀j,W.frozen? ⟨g,j,none⟩=false)/\g<W.heap.size):=(⟨hc,hf,hg⟩:_/\_)
 have hnI:(n:Int)<=1048576:=by omega
 clear hc hf hg hn;go_enter Tryz.func52,Tryz.ntmps52;go_wp2_with fail
 go_loopw [1,5] (λs1 s5 wr=>∃i:Nat,i<=n/\s5=.int .i64 i/\s1=.int .i64 (k+5*(i:Int))/\Hid (K1 g W wr)) (λ_ s5 _=>n-(intOf s5).toNat)
 case atStart=>exact⟨0,by omega,rfl,by simp,K1.refl _ _⟩
 case round=>
  obtain⟨i,hi,rfl,rfl,HK⟩:=hrel;obtain⟨hc,hf,hg⟩:=(uh HH)
  by_cases hin:i<n
  ·have hI:(i:Int)<(n:Int):=by omega
   have hb:i*5+5<=n*5:=by have:=Nat.mul_le_mul_right 5 (show i+1<=n from hin);rw[Nat.succ_mul]at this;exact this
   obtain⟨K,hK⟩:∃K:Int,K=k+5*(i:Int):=⟨_,rfl⟩
   have hK1:1<=K:=by omega
   have hK2:K<=600000000:=by omega
   have HKK:Hid (K=k+5*(i:Int)/\i*5+5<=n*5):=(⟨hK,hb⟩:_/\_)
   rw[<-hK];clear hc hf hg hK hb;obtain⟨u0,cu0⟩:=(uh HK).cell (i*5+0) ((uh HH).1 _ (by have:=(uh HKK).2;omega));have cf0:wr.frozen? ⟨g,i*5+0,none⟩=false:=((uh HK).fz _ (uh HH).2.2).trans ((uh HH).2.1 _);rw[Nat.add_zero]at cu0 cf0;go_upto_region 5 with fail;generalize hy:World.setCell wr _ _=y0;have HK0:Hid (K1 g W y0):=by rw[<-hy];exact(uh HK).trans (K1.set1 _ _ _ _)
   clear hy cu0 cf0 u0 HK;obtain⟨u1,cu1⟩:=(uh HK0).cell (i*5+1) ((uh HH).1 _ (by have:=(uh HKK).2;omega));have cf1:y0.frozen? ⟨g,i*5+1,none⟩=false:=((uh HK0).fz _ (uh HH).2.2).trans ((uh HH).2.1 _);go_upto_region 7 with fail;generalize hy:World.setCell y0 _ _=y1;have HK1:Hid (K1 g W y1):=by rw[<-hy];exact(uh HK0).trans (K1.set1 _ _ _ _)
   clear hy cu1 cf1 u1 HK0;obtain⟨u2,cu2⟩:=(uh HK1).cell (i*5+2) ((uh HH).1 _ (by have:=(uh HKK).2;omega));have cf2:y1.frozen? ⟨g,i*5+2,none⟩=false:=((uh HK1).fz _ (uh HH).2.2).trans ((uh HH).2.1 _);go_upto_region 9 with fail;generalize hy:World.setCell y1 _ _=y2;have HK2:Hid (K1 g W y2):=by rw[<-hy];exact(uh HK1).trans (K1.set1 _ _ _ _)
   clear hy cu2 cf2 u2 HK1;obtain⟨u3,cu3⟩:=(uh HK2).cell (i*5+3) ((uh HH).1 _ (by have:=(uh HKK).2;omega));have cf3:y2.frozen? ⟨g,i*5+3,none⟩=false:=((uh HK2).fz _ (uh HH).2.2).trans ((uh HH).2.1 _);have HT:=mark_text ((K+1+1+1)).toNat (by omega) (by omega) y2;rw[Int.toNat_of_nonneg (by omega)]at HT;generalize (⟨#[109]⟩++mtl ((K+1+1+1)).toNat ⟨#[]⟩:ByteArray)=tx3 at HT;have HCU:Hid (∀W',Below y2.heap.size y2 W'->W'.cell? ⟨g,i*5+3,none⟩=some u3/\W'.frozen? ⟨g,i*5+3,none⟩=false/\K1 g W W'):=(λW' b=>⟨(Kb.of_below b 0).cell cu3,((Kb.of_below b 0).frozen zq (World.block_lt_of_cell? _ _ cu3)).trans cf3,(uh HK2).trans (K1.of_kb (Kb.of_below b 0))⟩:∀W',_)
   clear cu3 cf3;go_upto_region 11 with(go_at_call 50;refine HT.mono ?_;rintro e z3 ⟨rfl,bz⟩;obtain⟨cu3,cf3,kz⟩:=(uh HCU) z3 bz);have HKZ:Hid (K1 g W z3):=kz;clear HT bz HCU kz HK2;generalize hy:World.setCell z3 _ _=y3;have HK3:Hid (K1 g W y3):=by rw[<-hy];exact(uh HKZ).trans (K1.set1 _ _ _ _)
   clear hy cu3 cf3 u3 HKZ;obtain⟨u4,cu4⟩:=(uh HK3).cell (i*5+4) ((uh HH).1 _ (by have:=(uh HKK).2;omega));have cf4:y3.frozen? ⟨g,i*5+4,none⟩=false:=((uh HK3).fz _ (uh HH).2.2).trans ((uh HH).2.1 _);go_upto_region 13 with fail;generalize hy:World.setCell y3 _ _=y4;have HK4:Hid (K1 g W y4):=by rw[<-hy];exact(uh HK3).trans (K1.set1 _ _ _ _)
   clear hy cu4 cf4 u4 HK3;go_wp2_with fail;go_roundw
   case rel=>exact⟨i+1,by omega,by go_num,by rw[(uh HKK).1];congr 1;omega,HK4⟩
   case measure=>simp[intOf];omega
  ·obtain rfl:i=n:=by omega
   have hI:¬(i:Int)<(i:Int):=by omega
   clear hc hf hg HH;go_wp2_with fail;go_ret;exact⟨rfl,HK⟩
def Inn(W:World)(g E gx m:Nat):Prop:=g<gx/\gx<E/\(∀j,j<m->∃u,W.cell? ⟨gx,j,none⟩=some u)/\∀j,W.frozen? ⟨gx,j,none⟩=false
structure Mst (g E n:Nat) (F:Nat->Pd) (W:World):Prop where
 gE:g<E
 Es:E<=W.heap.size
 fz:∀j,W.frozen? ⟨g,j,none⟩=false
 hd:∀i,i<n->∀t,t<5->∃u,W.cell? ⟨g,i*9+t,none⟩=some u
 rw:∀i,i<n->∃gu gc gn gm,(W.cell? ⟨g,i*9+5,none⟩=some (.slice (some ⟨gu,0,none⟩) (F i).u (F i).u)/\W.cell? ⟨g,i*9+6,none⟩=some (.slice (some ⟨gc,0,none⟩) (F i).c (F i).c)/\W.cell? ⟨g,i*9+7,none⟩=some (.slice (some ⟨gn,0,none⟩) (F i).n (F i).n)/\W.cell? ⟨g,i*9+8,none⟩=some (.slice (some ⟨gm,0,none⟩) (F i).d (F i).d))/\Inn W g E gu ((F i).u*2)/\Inn W g E gc ((F i).c*5)/\Inn W g E gn ((F i).n*5)/\Inn W g E gm ((F i).d*4)
theorem Inn.k1{gy m:Nat}(h:Inn W g E gy m)(hE:E<=W.heap.size)(k:K1 gx W W'):Inn W' g E gy m:=by
 obtain⟨h1,h2,h3,h4⟩:=h;by_cases e:gy=gx
 ·subst e;exact⟨h1,h2,λj hj=>k.cell j (h3 j hj),λj=>(k.fz j (by omega)).trans (h4 j)⟩
 ·have hb:=k.block gy (by omega) e;exact⟨h1,h2,λj hj=>by rw[World.cell?_of_block (w:=W) hb];exact h3 j hj,λj=>(World.frozen?_of_block hb).trans (h4 j)⟩
theorem Mst.k1(h:Mst g E n F W)(hx:gx≠g)(k:K1 gx W W'):Mst g E n F W':=by
 have hb:=k.block g (by have:=h.gE;have:=h.Es;omega) (by omega);have hc:∀j,W'.cell? ⟨g,j,none⟩=W.cell? ⟨g,j,none⟩:=λj=>World.cell?_of_block hb;refine⟨h.gE,Nat.le_trans h.Es k.size,λj=>(World.frozen?_of_block hb).trans (h.fz j),λi hi t ht=>by rw[hc];exact h.hd i hi t ht,λi hi=>?_⟩;obtain⟨gu,gc,gn,gm,⟨c1,c2,c3,c4⟩,r1,r2,r3,r4⟩:=h.rw i hi;exact⟨gu,gc,gn,gm,⟨by rw[hc];exact c1,by rw[hc];exact c2,by rw[hc];exact c3,by rw[hc];exact c4⟩,r1.k1 h.Es k,r2.k1 h.Es k,r3.k1 h.Es k,r4.k1 h.Es k⟩
theorem Mst.kb(h:Mst g E n F W)(k:Kb 0 W W'):Mst g E n F W':=h.k1 (gx:=g+1) (by omega) (K1.of_kb k)
theorem Mst.set(h:Mst g E n F W)(i t:Nat)(ht:t<5)(v:Value):Mst g E n F (W.setCell ⟨g,i*9+t,none⟩ v):=by
 have k:=K1.set1 g W (i*9+t) v;have hE:=h.Es;have hg:=h.gE;have hc:∀a s,5<=s->s<9->(W.setCell ⟨g,i*9+t,none⟩ v).cell? ⟨g,a*9+s,none⟩=W.cell? ⟨g,a*9+s,none⟩:=λa s h5 h9=>set_ne _ _ _ _ _ (by omega);refine⟨hg,Nat.le_trans hE k.size,λj=>(k.fz j (by omega)).trans (h.fz j),λa ha s hs=>k.cell _ (h.hd a ha s hs),λa ha=>?_⟩;obtain⟨gu,gc,gn,gm,⟨c1,c2,c3,c4⟩,r1,r2,r3,r4⟩:=h.rw a ha;exact⟨gu,gc,gn,gm,⟨(hc a 5 (by omega) (by omega)).trans c1,(hc a 6 (by omega) (by omega)).trans c2,(hc a 7 (by omega) (by omega)).trans c3,(hc a 8 (by omega) (by omega)).trans c4⟩,r1.k1 hE k,r2.k1 hE k,r3.k1 hE k,r4.k1 hE k⟩
structure KE (B E:Nat) (W w':World):Prop where
 os:w'.os=W.os
 output:w'.output=W.output
 size:W.heap.size<=w'.heap.size
 block:∀b,b<W.heap.size->b<B\/E<=b->w'.heap[b]? =W.heap[b]?
theorem KE.refl(B E:Nat)(W:World):KE B E W W:=⟨rfl,rfl,Nat.le_refl _,λ_ _ _=>rfl⟩
theorem KE.k1{a b:World}(h:KE B E W a)(hg:B<=g/\g<E)(k:K1 g a b):KE B E W b:=
 ⟨k.os.trans h.os,k.output.trans h.output,Nat.le_trans h.size k.size,λi hi hb=>(k.block i (Nat.lt_of_lt_of_le hi h.size) (by omega)).trans (h.block i hi hb)⟩
theorem mst_of{v:Value}(h:RowPF B W v n F):∃g,v=.slice (some ⟨g,0,none⟩) n n/\B<=g/\Mst g W.heap.size n F W:=by
 obtain⟨g,h1,h2,h3,h4,h5⟩:=h
 have ex:∀{m c:Nat} {X:Nat->Nat->Option Value} {gx:Nat},0<c->(∀i,i<m->∀t,t<c->∃u,W.cell? ⟨gx,i*c+t,none⟩=some u)->∀j,j<m*c->∃u,W.cell? ⟨gx,j,none⟩=some u:=by
  intro m c X gx hc hh j hj;have:=hh (j / c) (Nat.div_lt_of_lt_mul (by rw[Nat.mul_comm];exact hj)) (j%c) (Nat.mod_lt _ hc);rw[Nat.mul_comm,Nat.div_add_mod]at this;exact this
 refine⟨g,h1,h2,h3,Nat.le_refl _,h4,λi hi t ht=>?_,λi hi=>?_⟩
 ·obtain⟨vu,vc,vn,vd,⟨d0,d1,d2,d3,d4,d5,d6,d7,d8⟩,_⟩:=h5 i hi;rcases(by omega:t=0\/t=1\/t=2\/t=3\/t=4)with rfl|rfl|rfl|rfl|rfl
  ·exact⟨_,d0⟩
  ·exact⟨_,d1⟩
  ·exact⟨_,d2⟩
  ·exact⟨_,d3⟩
  ·exact⟨_,d4⟩
 ·obtain⟨vu,vc,vn,vd,⟨d0,d1,d2,d3,d4,d5,d6,d7,d8⟩,⟨pu,cu,rfl,ru,gu,rfl,rfl,a1,a2,a3⟩,⟨pc,cc,rfl,rc,gc,rfl,rfl,b1,b2,b3⟩,⟨pn,cn,rfl,rn,gn,rfl,rfl,e1,e2,e3⟩,⟨pm,cm,rfl,rm,gm,rfl,rfl,f1,f2,f3⟩⟩:=h5 i hi;refine⟨gu,gc,gn,gm,⟨d5,d6,d7,d8⟩,⟨by omega,a2,?_,a3⟩,⟨by omega,b2,?_,b3⟩,⟨by omega,e2,?_,e3⟩,⟨by omega,f2,?_,f3⟩⟩
  ·refine ex (X:=λ_ _=>none) (by decide) (λj hj t ht=>?_);obtain⟨pa',ca',e1',hr2⟩:=ru;obtain⟨rfl,-,rfl⟩:=(Value.slice.injEq _ _ _ _ _ _).mp e1';obtain⟨b,hb,hcb,-,hrb⟩:=hr2 (by omega);obtain rfl:=Option.some.inj hb;obtain⟨k0,k1⟩:=hrb j hj;rw[addr0]at k0 k1;rcases(by omega:t=0\/t=1)with rfl|rfl
   ·exact⟨_,k0⟩
   ·exact⟨_,k1⟩
  ·refine ex (X:=λ_ _=>none) (by decide) (λj hj t ht=>?_);obtain⟨pa',ca',e1',hr2⟩:=rc;obtain⟨rfl,-,rfl⟩:=(Value.slice.injEq _ _ _ _ _ _).mp e1';obtain⟨b,hb,hcb,-,hrb⟩:=hr2 (by omega);obtain rfl:=Option.some.inj hb;obtain⟨k0,k1,k2,k3,k4⟩:=hrb j hj;rw[addr0]at k0 k1 k2 k3 k4;rcases(by omega:t=0\/t=1\/t=2\/t=3\/t=4)with rfl|rfl|rfl|rfl|rfl
   ·exact⟨_,k0⟩
   ·exact⟨_,k1⟩
   ·exact⟨_,k2⟩
   ·exact⟨_,k3⟩
   ·exact⟨_,k4⟩
  ·refine ex (X:=λ_ _=>none) (by decide) (λj hj t ht=>?_);obtain⟨pa',ca',e1',hr2⟩:=rn;obtain⟨rfl,-,rfl⟩:=(Value.slice.injEq _ _ _ _ _ _).mp e1';obtain⟨b,hb,hcb,-,hrb⟩:=hr2 (by omega);obtain rfl:=Option.some.inj hb;obtain⟨k0,k1,k2,k3,k4⟩:=hrb j hj;rw[addr0]at k0 k1 k2 k3 k4;rcases(by omega:t=0\/t=1\/t=2\/t=3\/t=4)with rfl|rfl|rfl|rfl|rfl
   ·exact⟨_,k0⟩
   ·exact⟨_,k1⟩
   ·exact⟨_,k2⟩
   ·exact⟨_,k3⟩
   ·exact⟨_,k4⟩
  ·refine ex (X:=λ_ _=>none) (by decide) (λj hj t ht=>?_);obtain⟨pa',ca',e1',hr2⟩:=rm;obtain⟨rfl,-,rfl⟩:=(Value.slice.injEq _ _ _ _ _ _).mp e1';obtain⟨b,hb,hcb,-,hrb⟩:=hr2 (by omega);obtain rfl:=Option.some.inj hb;obtain⟨k0,k1,k2,k3⟩:=hrb j hj;rw[addr0]at k0 k1 k2 k3;rcases(by omega:t=0\/t=1\/t=2\/t=3)with rfl|rfl|rfl|rfl
   ·exact⟨_,k0⟩
   ·exact⟨_,k1⟩
   ·exact⟨_,k2⟩
   ·exact⟨_,k3⟩
theorem mark_pros(k:Int)(h1:1<=k)(h2:k<=1000)(hn:n<=1048576)(hF:∀i,i<n->(F i).u<=1048576/\(F i).c<=1048576/\(F i).n<=1048576/\(F i).d<=1048576)(hsm:sm (λi=>5+2*(F i).u+5*(F i).c+5*(F i).n+4*(F i).d) n<=100000000)(hB:B<=g)(hm:Mst g E n F W):
  Calls Tryz.prog 24 #[.slice (some ⟨g,0,none⟩) n n,.int .i64 k] W λe w'=>e=.returned (.int .i64 (k+(sm (λi=>5+2*(F i).u+5*(F i).c+5*(F i).n+4*(F i).d) n:Int)))/\KE B E W w':=by
 have HH:Hid ((∀i,i<n->(F i).u<=1048576/\(F i).c<=1048576/\(F i).n<=1048576/\(F i).d<=1048576)/\sm (λi=>5+2*(F i).u+5*(F i).c+5*(F i).n+4*(F i).d) n<=100000000/\B<=g):=(⟨hF,hsm,hB⟩:_/\_)
 have HM:Hid (Mst g E n F W):=hm;have hnI:(n:Int)<=1048576:=by omega
 clear hF hsm hB hm hn;go_enter Tryz.func24,Tryz.ntmps24;go_wp2_with fail
 go_loopw [1,5] (λs1 s5 wr=>∃i:Nat,i<=n/\s5=.int .i64 i/\s1=.int .i64 (k+(sm (λi=>5+2*(F i).u+5*(F i).c+5*(F i).n+4*(F i).d) i:Int))/\Hid (Mst g E n F wr/\KE B E W wr)) (λ_ s5 _=>n-(intOf s5).toNat)
 case atStart=>exact⟨0,by omega,rfl,by simp[sm],(⟨HM,KE.refl _ _ _⟩:_/\_)⟩
 case round=>
  obtain⟨i,hi,rfl,rfl,HK⟩:=hrel;obtain⟨hF,hsm,hB⟩:=(uh HH)
  by_cases hin:i<n
  ·have hI:(i:Int)<(n:Int):=by omega
   have hmo:=sm_mono (λi=>5+2*(F i).u+5*(F i).c+5*(F i).n+4*(F i).d) (show i+1<=n from hin);have hsu:sm (λi=>5+2*(F i).u+5*(F i).c+5*(F i).n+4*(F i).d) (i+1)=sm (λi=>5+2*(F i).u+5*(F i).c+5*(F i).n+4*(F i).d) i+(5+2*(F i).u+5*(F i).c+5*(F i).n+4*(F i).d):=rfl;obtain⟨yu,yc,yn,yd⟩:=hF i hin;obtain⟨K,hK⟩:∃K:Int,K=k+(sm (λi=>5+2*(F i).u+5*(F i).c+5*(F i).n+4*(F i).d) i:Int):=⟨_,rfl⟩
   have hK1:1<=K:=by omega
   have hK2:K+5+2*((F i).u:Int)+5*((F i).c:Int)+5*((F i).n:Int)+4*((F i).d:Int)<=200000000:=by omega
   have hKb:K<=200000000:=by omega
   have HKK:Hid (k+(sm (λi=>5+2*(F i).u+5*(F i).c+5*(F i).n+4*(F i).d) (i+1):Int)=K+5+2*((F i).u:Int)+5*((F i).c:Int)+5*((F i).n:Int)+4*((F i).d:Int)/\(F i).u<=1048576/\(F i).c<=1048576/\(F i).n<=1048576/\(F i).d<=1048576/\K+5+2*((F i).u:Int)+5*((F i).c:Int)+5*((F i).n:Int)+4*((F i).d:Int)<=200000000/\B<=g):=(⟨by rw[hsu,hK];omega,yu,yc,yn,yd,hK2,hB⟩:_/\_)
   rw[<-hK];clear hF hsm hB hK hmo hsu yu yc yn yd hK2;obtain⟨u0,cu0⟩:=(uh HK).1.hd i hin 0 (by omega);have cf0:wr.frozen? ⟨g,i*9+0,none⟩=false:=(uh HK).1.fz _;rw[Nat.add_zero]at cu0 cf0;have HT:=mark_text (K).toNat (by omega) (by omega) wr;rw[Int.toNat_of_nonneg (by omega)]at HT;generalize (⟨#[109]⟩++mtl (K).toNat ⟨#[]⟩:ByteArray)=tx0 at HT;have HCU:Hid (∀W',Below wr.heap.size wr W'->W'.cell? ⟨g,i*9,none⟩=some u0/\W'.frozen? ⟨g,i*9,none⟩=false/\Mst g E n F W'/\KE B E W W'):=(λW' b=>⟨(Kb.of_below b 0).cell cu0,((Kb.of_below b 0).frozen zq (World.block_lt_of_cell? _ _ cu0)).trans cf0,(uh HK).1.kb (Kb.of_below b 0),(uh HK).2.k1 (g:=g) ⟨(uh HKK).2.2.2.2.2.2,(uh HK).1.gE⟩ (K1.of_kb (Kb.of_below b 0))⟩:∀W',_)
   clear cu0 cf0;go_upto_region 5 with(go_at_call 50;refine HT.mono ?_;rintro e z0 ⟨rfl,bz⟩;obtain⟨cu0,cf0,mz,kz⟩:=(uh HCU) z0 bz);have HKZ:Hid (Mst g E n F z0/\KE B E W z0):=(⟨mz,kz⟩:_/\_)
   clear HT bz HCU mz kz HK;generalize hy:World.setCell z0 _ _=y0
   have HK0:Hid (Mst g E n F y0/\KE B E W y0):=by
    rw[<-hy];exact(⟨(uh HKZ).1.set i 0 (by omega) _,(uh HKZ).2.k1 (g:=g) ⟨(uh HKK).2.2.2.2.2.2,(uh HKZ).1.gE⟩ (K1.set1 _ _ _ _)⟩:_/\_)
   clear hy cu0 cf0 u0 HKZ;obtain⟨u1,cu1⟩:=(uh HK0).1.hd i hin 1 (by omega);have cf1:y0.frozen? ⟨g,i*9+1,none⟩=false:=(uh HK0).1.fz _;go_upto_region 7 with fail;generalize hy:World.setCell y0 _ _=y1
   have HK1:Hid (Mst g E n F y1/\KE B E W y1):=by
    rw[<-hy];exact(⟨(uh HK0).1.set i 1 (by omega) _,(uh HK0).2.k1 (g:=g) ⟨(uh HKK).2.2.2.2.2.2,(uh HK0).1.gE⟩ (K1.set1 _ _ _ _)⟩:_/\_)
   clear hy cu1 cf1 u1 HK0;obtain⟨u2,cu2⟩:=(uh HK1).1.hd i hin 2 (by omega);have cf2:y1.frozen? ⟨g,i*9+2,none⟩=false:=(uh HK1).1.fz _;go_upto_region 9 with fail;generalize hy:World.setCell y1 _ _=y2
   have HK2:Hid (Mst g E n F y2/\KE B E W y2):=by
    rw[<-hy];exact(⟨(uh HK1).1.set i 2 (by omega) _,(uh HK1).2.k1 (g:=g) ⟨(uh HKK).2.2.2.2.2.2,(uh HK1).1.gE⟩ (K1.set1 _ _ _ _)⟩:_/\_)
   clear hy cu2 cf2 u2 HK1;obtain⟨u3,cu3⟩:=(uh HK2).1.hd i hin 3 (by omega);have cf3:y2.frozen? ⟨g,i*9+3,none⟩=false:=(uh HK2).1.fz _;go_upto_region 11 with fail;generalize hy:World.setCell y2 _ _=y3
   have HK3:Hid (Mst g E n F y3/\KE B E W y3):=by
    rw[<-hy];exact(⟨(uh HK2).1.set i 3 (by omega) _,(uh HK2).2.k1 (g:=g) ⟨(uh HKK).2.2.2.2.2.2,(uh HK2).1.gE⟩ (K1.set1 _ _ _ _)⟩:_/\_)
   clear hy cu3 cf3 u3 HK2;obtain⟨u4,cu4⟩:=(uh HK3).1.hd i hin 4 (by omega);have cf4:y3.frozen? ⟨g,i*9+4,none⟩=false:=(uh HK3).1.fz _;go_upto_region 13 with fail;generalize hy:World.setCell y3 _ _=y4
   have HK4:Hid (Mst g E n F y4/\KE B E W y4):=by
    rw[<-hy];exact(⟨(uh HK3).1.set i 4 (by omega) _,(uh HK3).2.k1 (g:=g) ⟨(uh HKK).2.2.2.2.2.2,(uh HK3).1.gE⟩ (K1.set1 _ _ _ _)⟩:_/\_)
   clear hy cu4 cf4 u4 HK3;obtain⟨gu,gc,gn,gm,⟨c1,c2,c3,c4⟩,r1,r2,r3,r4⟩:=(uh HK4).1.rw i hin;obtain⟨hKe,bu,bc,bn,bd,hKt,hBg⟩:=(uh HKK)
   have HC:=mark_ups (K+1+1+1+1+1) (by omega) (by omega) bu r1.2.2.1 r1.2.2.2 (Nat.lt_of_lt_of_le r1.2.1 (uh HK4).1.Es);have HZ:Hid (∀W',K1 gu y4 W'->Mst g E n F W'/\KE B E W W'):=(λW' k1=>⟨(uh HK4).1.k1 (by have:=r1.1;omega) k1,(uh HK4).2.k1 ⟨by have:=r1.1;omega,r1.2.1⟩ k1⟩:∀W',_)
   have ca:y4.cell? ⟨g,i*9+5,none⟩=some (.slice (some ⟨gu,0,none⟩) (F i).u (F i).u):=c1;clear c1 c2 c3 c4 r1 r2 r3 r4 hKe bu bc bn bd hKt hBg HK4;go_upto_region 15 with(go_at_call 51;refine HC.mono ?_;rintro e m0 ⟨rfl,kq⟩);have HM0:Hid (Mst g E n F m0/\KE B E W m0):=(uh HZ) m0 kq;clear HC HZ kq ca;obtain⟨gu,gc,gn,gm,⟨c1,c2,c3,c4⟩,r1,r2,r3,r4⟩:=(uh HM0).1.rw i hin;obtain⟨hKe,bu,bc,bn,bd,hKt,hBg⟩:=(uh HKK)
   have HC:=mark_vals (K+1+1+1+1+1+2*((F i).u:Int)) (by omega) (by omega) bc r2.2.2.1 r2.2.2.2 (Nat.lt_of_lt_of_le r2.2.1 (uh HM0).1.Es);have HZ:Hid (∀W',K1 gc m0 W'->Mst g E n F W'/\KE B E W W'):=(λW' k1=>⟨(uh HM0).1.k1 (by have:=r2.1;omega) k1,(uh HM0).2.k1 ⟨by have:=r2.1;omega,r2.2.1⟩ k1⟩:∀W',_)
   have ca:m0.cell? ⟨g,i*9+6,none⟩=some (.slice (some ⟨gc,0,none⟩) (F i).c (F i).c):=c2;clear c1 c2 c3 c4 r1 r2 r3 r4 hKe bu bc bn bd hKt hBg HM0;go_upto_region 16 with(go_at_call 52;refine HC.mono ?_;rintro e m1 ⟨rfl,kq⟩);have HM1:Hid (Mst g E n F m1/\KE B E W m1):=(uh HZ) m1 kq;clear HC HZ kq ca;obtain⟨gu,gc,gn,gm,⟨c1,c2,c3,c4⟩,r1,r2,r3,r4⟩:=(uh HM1).1.rw i hin;obtain⟨hKe,bu,bc,bn,bd,hKt,hBg⟩:=(uh HKK)
   have HC:=mark_inss (K+1+1+1+1+1+2*((F i).u:Int)+5*((F i).c:Int)) (by omega) (by omega) bn r3.2.2.1 r3.2.2.2 (Nat.lt_of_lt_of_le r3.2.1 (uh HM1).1.Es);have HZ:Hid (∀W',K1 gn m1 W'->Mst g E n F W'/\KE B E W W'):=(λW' k1=>⟨(uh HM1).1.k1 (by have:=r3.1;omega) k1,(uh HM1).2.k1 ⟨by have:=r3.1;omega,r3.2.1⟩ k1⟩:∀W',_)
   have ca:m1.cell? ⟨g,i*9+7,none⟩=some (.slice (some ⟨gn,0,none⟩) (F i).n (F i).n):=c3;clear c1 c2 c3 c4 r1 r2 r3 r4 hKe bu bc bn bd hKt hBg HM1;go_upto_region 17 with(go_at_call 53;refine HC.mono ?_;rintro e m2 ⟨rfl,kq⟩);have HM2:Hid (Mst g E n F m2/\KE B E W m2):=(uh HZ) m2 kq;clear HC HZ kq ca;obtain⟨gu,gc,gn,gm,⟨c1,c2,c3,c4⟩,r1,r2,r3,r4⟩:=(uh HM2).1.rw i hin;obtain⟨hKe,bu,bc,bn,bd,hKt,hBg⟩:=(uh HKK)
   have HC:=mark_nams (K+1+1+1+1+1+2*((F i).u:Int)+5*((F i).c:Int)+5*((F i).n:Int)) (by omega) (by omega) bd r4.2.2.1 r4.2.2.2 (Nat.lt_of_lt_of_le r4.2.1 (uh HM2).1.Es);have HZ:Hid (∀W',K1 gm m2 W'->Mst g E n F W'/\KE B E W W'):=(λW' k1=>⟨(uh HM2).1.k1 (by have:=r4.1;omega) k1,(uh HM2).2.k1 ⟨by have:=r4.1;omega,r4.2.1⟩ k1⟩:∀W',_)
   have ca:m2.cell? ⟨g,i*9+8,none⟩=some (.slice (some ⟨gm,0,none⟩) (F i).d (F i).d):=c4;clear c1 c2 c3 c4 r1 r2 r3 r4 hKe bu bc bn bd hKt hBg HM2;go_wp2_with (go_at_call 54;refine HC.mono ?_;rintro e m3 ⟨rfl,kq⟩);have HM3:Hid (Mst g E n F m3/\KE B E W m3):=(uh HZ) m3 kq;clear HC HZ kq ca;go_wp2_with fail;go_roundw
   case rel=>exact⟨i+1,by omega,by go_num,by rw[(uh HKK).1];congr 1;omega,HM3⟩
   case measure=>simp[intOf];omega
  ·obtain rfl:i=n:=by omega
   have hI:¬(i:Int)<(i:Int):=by omega
   clear hF hsm hB HH HM;go_wp2_with fail;go_ret;exact⟨rfl,(uh HK).2⟩
theorem mark_code(hn:n<=1048576)(hF:∀i,i<n->(F i).u<=1048576/\(F i).c<=1048576/\(F i).n<=1048576/\(F i).d<=1048576)(hsm:sm (λi=>5+2*(F i).u+5*(F i).c+5*(F i).n+4*(F i).d) n<=100000000)(hB:B<=g)(hm:Mst g E n F W):
  Calls Tryz.prog 10 #[.agg #[.slice (some ⟨g,0,none⟩) n n],.int .i64 1] W λe w'=>∃k:Nat,e=.returned (.int .i64 k)/\KE B E W w':=by
 obtain⟨w1,hw1⟩:∃w1,w1=W.alloc (.cells #[.slice (some ⟨g,0,none⟩) n n] 30):=⟨_,rfl⟩
 have k1:Kb 0 W w1:=by rw[hw1];exact kb_alloc _ _ _
 have HC:=mark_pros 1 (by omega) (by omega) hn hF hsm hB (hm.kb k1);have HK:Hid (∀W',KE B E w1 W'->KE B E W W'):=(λW' k=>⟨k.os.trans k1.os,k.output.trans k1.output,Nat.le_trans k1.size k.size,λb hb h=>(k.block b (Nat.lt_of_lt_of_le hb k1.size) h).trans (k1.block b zq hb)⟩:∀W',_)
 have HW:Hid (w1=W.alloc (.cells #[.slice (some ⟨g,0,none⟩) n n] 30)):=hw1;generalize sm (λi=>5+2*(F i).u+5*(F i).c+5*(F i).n+4*(F i).d) n=SS at*;clear hw1 k1 hm hB hsm hF hn;go_enter Tryz.func10,Tryz.ntmps10;go_wp2_with fail;rw[<-(uh HW)];refine HC.mono ?_;rintro e w2 ⟨rfl,k2⟩;have HN:Hid (KE B E W w2):=(uh HK) w2 k2;clear HC HK k2 HW;go_wp2_with fail;go_ret;refine⟨1+SS,?_,HN⟩
 first|rfl|(congr 2;omega)|simp
