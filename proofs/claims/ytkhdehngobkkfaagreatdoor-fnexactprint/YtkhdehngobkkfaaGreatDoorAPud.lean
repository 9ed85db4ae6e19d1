import Derived.Test.YtkhdehngobkkfaaGreatDoorATfw
import Derived.Deep.Upon
set_option maxRecDepth 100000
set_option maxHeartbeats 16000000
namespace Go.Proofs.YtkhdehngobkkfaaGreatDoor.Fo
open Go.ChangeShapes Go.WideShapes Go.ChangeAt Go.RowKit
set_option linter.unusedVariables false
set_option maxRecDepth 100000
variable {a:Fv}{ki g cap T:Nat}{X l:List UInt8}{W:World}{fz:Nat × Nat}
def bdL:List (List Int):=[[26,29,0,1,1,2],[10,28,0,2,2,3],[73,31,13,3,3,4],[74,31,14,3,3,4],[75,31,15,3,3,4],[76,31,16,3,3,4],[77,31,17,3,3,4],[78,31,18,3,3,4],[72,31,12,4,5,4],[68,31,8,5,5,6],[69,31,9,6,6,7],[67,31,7,7,7,8],[70,31,10,8,8,9],[71,31,11,8,8,9],[61,31,1,9,9,10],[62,31,2,9,9,10],[63,31,3,10,10,11],[64,31,4,10,10,11],[65,31,5,10,10,11],[66,31,6,10,10,11]]
def bd(i j:Nat):Int:=(bdL.getD i []).getD j 0
def bdv(i:Nat):Array Value:=#[.int .i64 (bd i 0),.int .i64 (bd i 1),.int .i64 (bd i 2),.int .i64 (bd i 3),.int .i64 (bd i 4),.int .i64 (bd i 5)]
def bondA:Array Value:=#[.int .i64 26,.int .i64 29,.int .i64 0,.int .i64 1,.int .i64 1,.int .i64 2,.int .i64 10,.int .i64 28,.int .i64 0,.int .i64 2,.int .i64 2,.int .i64 3,.int .i64 73,.int .i64 31,.int .i64 13,.int .i64 3,.int .i64 3,.int .i64 4,.int .i64 74,.int .i64 31,.int .i64 14,.int .i64 3,.int .i64 3,.int .i64 4,.int .i64 75,.int .i64 31,.int .i64 15,.int .i64 3,.int .i64 3,.int .i64 4,.int .i64 76,.int .i64 31,.int .i64 16,.int .i64 3,.int .i64 3,.int .i64 4,.int .i64 77,.int .i64 31,.int .i64 17,.int .i64 3,.int .i64 3,.int .i64 4,.int .i64 78,.int .i64 31,.int .i64 18,.int .i64 3,.int .i64 3,.int .i64 4,.int .i64 72,.int .i64 31,.int .i64 12,.int .i64 4,.int .i64 5,.int .i64 4,.int .i64 68,.int .i64 31,.int .i64 8,.int .i64 5,.int .i64 5,.int .i64 6,.int .i64 69,.int .i64 31,.int .i64 9,.int .i64 6,.int .i64 6,.int .i64 7,.int .i64 67,.int .i64 31,.int .i64 7,.int .i64 7,.int .i64 7,.int .i64 8,.int .i64 70,.int .i64 31,.int .i64 10,.int .i64 8,.int .i64 8,.int .i64 9,.int .i64 71,.int .i64 31,.int .i64 11,.int .i64 8,.int .i64 8,.int .i64 9,.int .i64 61,.int .i64 31,.int .i64 1,.int .i64 9,.int .i64 9,.int .i64 10,.int .i64 62,.int .i64 31,.int .i64 2,.int .i64 9,.int .i64 9,.int .i64 10,.int .i64 63,.int .i64 31,.int .i64 3,.int .i64 10,.int .i64 10,.int .i64 11,.int .i64 64,.int .i64 31,.int .i64 4,.int .i64 10,.int .i64 10,.int .i64 11,.int .i64 65,.int .i64 31,.int .i64 5,.int .i64 10,.int .i64 10,.int .i64 11,.int .i64 66,.int .i64 31,.int .i64 6,.int .i64 10,.int .i64 10,.int .i64 11]
theorem bond_at(i:Nat)(hi:i<20)(W:World):(Instr.index 160 (.agg bondA) (.int .i64 i)).run Tryz.prog W=.ok (.agg #[.int .i64 (bd i 0),.int .i64 (bd i 1),.int .i64 (bd i 2),.int .i64 (bd i 3),.int .i64 (bd i 4),.int .i64 (bd i 5)]) W:=by
 have h:i=0\/i=1\/i=2\/i=3\/i=4\/i=5\/i=6\/i=7\/i=8\/i=9\/i=10\/i=11\/i=12\/i=13\/i=14\/i=15\/i=16\/i=17\/i=18\/i=19:=by omega
 rcases h with rfl|rfl|rfl|rfl|rfl|rfl|rfl|rfl|rfl|rfl|rfl|rfl|rfl|rfl|rfl|rfl|rfl|rfl|rfl|rfl<;>(show _=_;kernel_rfl)
theorem bond_first(k o:Int):∃m,m<=20/\(∀j,j<m->¬(bd j 1=k/\bd j 2=o))/\(m=20\/(bd m 1=k/\bd m 2=o)):=by
 have key:∀n,n<=20->(∃m,m<n/\(∀j,j<m->¬(bd j 1=k/\bd j 2=o))/\(bd m 1=k/\bd m 2=o))\/(∀j,j<n->¬(bd j 1=k/\bd j 2=o)):=by
  intro n
  induction n with
  |zero=>intro _;right;intro j hj;omega
  |succ n ih=>
   intro hn;rcases ih (by omega)with⟨m,h1,h2,h3⟩|h
   ·exact .inl ⟨m,by omega,h2,h3⟩
   ·by_cases e:bd n 1=k/\bd n 2=o
    ·exact .inl ⟨n,by omega,h,e⟩
    ·right
     intro j hj;by_cases ej:j=n
     ·subst ej;exact e
     ·exact h j (by omega)
 rcases key 20 (Nat.le_refl _)with⟨m,h1,h2,h3⟩|h
 ·exact⟨m,by omega,h2,.inr h3⟩
 ·exact⟨20,Nat.le_refl _,h,.inl rfl⟩
def Bd(a:Fv)(r:Array Value):Prop:=(∃m,m<20/\bd m 1=a.k/\bd m 2=a.o/\r=bdv m)\/((∀j,j<20->¬(bd j 1=a.k/\bd j 2=a.o))/\r=#[.int .i64 0,.int .i64 0,.int .i64 0,.int .i64 0,.int .i64 0,.int .i64 0])
def ZB:Array Value:=#[.int .i64 0,.int .i64 0,.int .i64 0,.int .i64 0,.int .i64 0,.int .i64 0]
structure BoI (w:World) (a:Fv) (wr:World):Prop where
 bel:Below w.heap.size w wr
 c0:wr.cell? ⟨w.heap.size,0,none⟩=some (.int .i64 a.k)
 c4:wr.cell? ⟨w.heap.size,4,none⟩=some (.int .i64 a.o)
 hb:wr.heap[w.heap.size+1]? =some (.cells ZB 147 (0,0))
theorem BoI.alloc{w:World}{wr:World}(h:BoI w a wr)(o:Obj):BoI w a (wr.alloc o):=by
 have hl:=lt_of_cell h.c0;have hb:=bel1 wr o;exact⟨h.bel.trans (hb.mono h.bel.size),(hb.cell (p:=⟨w.heap.size,0,none⟩) hl).trans h.c0,(hb.cell (p:=⟨w.heap.size,4,none⟩) hl).trans h.c4,(hb.block _ (Array.getElem?_eq_some_iff.1 h.hb).1).trans h.hb⟩
theorem im_bond(a:Fv)(vn vk:Value)(w:World)(hu:w.rangeAt 4 0 bondA.toList)(hgs:12<=w.heap.size):
  Calls Tryz.prog 107 #[fmv a vn vk] w λe w'=>∃r,e=.returned (.agg r)/\Bd a r/\Below w.heap.size w w':=by
 obtain⟨m,hm,hne,hlast⟩:=bond_first a.k a.o;have HF:Hid (m<=20/\(∀j,j<m->¬(bd j 1=a.k/\bd j 2=a.o))/\(m=20\/(bd m 1=a.k/\bd m 2=a.o))):=(⟨hm,hne,hlast⟩:_/\_/\_)
 unfold fmv
 have HO:Hid (BoI w a ((w.alloc (.cells #[.int .i64 a.k,.int .i64 a.f,.int .i64 a.t,.int .i64 a.l,.int .i64 a.o,.int .i64 a.m,.string a.x,vn,vk] 44)).alloc (.cells #[.int .i64 0,.int .i64 0,.int .i64 0,.int .i64 0,.int .i64 0,.int .i64 0] 147))):=by
  refine(⟨(bel1 w _).trans ((bel1 _ _).mono (by simp)),?_,?_,?_⟩:BoI _ _ _)
  ·rw[(bel1 _ _).cell (p:=⟨w.heap.size,0,none⟩) (by simp)];simp
  ·rw[(bel1 _ _).cell (p:=⟨w.heap.size,4,none⟩) (by simp)];simp
  ·have:=alloc_at (w.alloc (.cells #[.int .i64 a.k,.int .i64 a.f,.int .i64 a.t,.int .i64 a.l,.int .i64 a.o,.int .i64 a.m,.string a.x,vn,vk] 44)) #[.int .i64 0,.int .i64 0,.int .i64 0,.int .i64 0,.int .i64 0,.int .i64 0] 147
   simpa [ZB]using this
 have HR:Hid (((w.alloc (.cells #[.int .i64 a.k,.int .i64 a.f,.int .i64 a.t,.int .i64 a.l,.int .i64 a.o,.int .i64 a.m,.string a.x,vn,vk] 44)).alloc (.cells #[.int .i64 0,.int .i64 0,.int .i64 0,.int .i64 0,.int .i64 0,.int .i64 0] 147)).rangeAt 4 0 bondA.toList):=(λj v hv=>(((bel1 w _).trans ((bel1 _ _).mono (by simp))).cell (p:=⟨4,0+j,none⟩) (by show 4<_;omega)).trans (hu j v hv):∀j v,_)
 clear hm hne hlast hu hgs;go_enter Tryz.func107,Tryz.ntmps107;go_wp2_with (refine wpList_load_mid rfl 160 (.global 4) rfl 4 0 rfl bondA.toList _ HR Tryz.underlying160 rfl (by kernel_rfl) ?_);clear HR
 go_loopw [6] (λs6 wr=>∃i:Nat,s6=.int .i64 i/\i<=m/\Hid (BoI w a wr)) (λs6 _=>20-(intOf s6).toNat)
 case atStart=>exact⟨0,rfl,Nat.zero_le _,HO⟩
 case round=>
  clear HO;obtain⟨i,rfl,him,HI⟩:=hrel;obtain⟨hm,hne,hlast⟩:=(uh HF)
  obtain⟨hB0,c0,c4,hb⟩:=(uh HI)
  have hlt:=lt_of_cell c0;have hne0:(w.heap.size==wr.heap.size)=false:=by rw[beq_eq_false_iff_ne];omega
  have HN:Hid (∀o,BoI w a (wr.alloc o)):=(λo=>(uh HI).alloc o:∀o,BoI w a (wr.alloc o))
  by_cases hj:i<m
  ·have hgi:=bond_at i (by omega);have hi20:(i:Int)<20:=by omega
   have hk:=hne i hj;by_cases hk1:bd i 1=a.k
   ·have hk2:(bd i 2==a.o)=false:=by rw[beq_eq_false_iff_ne];exact λe=>hk ⟨hk1,e⟩
    have hk3:(bd i 1==a.k)=true:=by rw[beq_iff_eq];exact hk1
    clear hm hne hlast HF HI hB0 hk hk1 hb;generalize bd i 0=b0 at*;generalize bd i 1=b1 at*;generalize bd i 2=b2 at*;go_wp2_with fail;go_roundw
    case rel=>exact⟨i+1,by go_num,by omega,(uh HN) _⟩
    case measure=>simp[intOf];omega
   ·have hk3:(bd i 1==a.k)=false:=by rw[beq_eq_false_iff_ne];exact hk1
    clear hm hne hlast HF HI hB0 hk hk1 hb;generalize bd i 0=b0 at*;generalize bd i 1=b1 at*;generalize bd i 2=b2 at*;go_wp2_with fail;go_roundw
    case rel=>exact⟨i+1,by go_num,by omega,(uh HN) _⟩
    case measure=>simp[intOf];omega
  ·obtain rfl:i=m:=by omega
   clear hj him;by_cases h20:i=20
   ·subst h20;have hn20:¬((20:Nat):Int)<20:=by decide
    have hbV:wr.heap[w.heap.size+1]? =some (.cells #[.int .i64 0,.int .i64 0,.int .i64 0,.int .i64 0,.int .i64 0,.int .i64 0] 147 (0,0)):=hb;have hBV:=hB0;have HBD:Hid (Bd a #[.int .i64 0,.int .i64 0,.int .i64 0,.int .i64 0,.int .i64 0,.int .i64 0]):=.inr ⟨hne,rfl⟩;clear hne hlast HF HI hB0 hb HN hne0 hlt c0 c4 hm;have hb0:wr.heap[w.heap.size+1]? =some (.cells #[.int .i64 0,.int .i64 0,.int .i64 0,.int .i64 0,.int .i64 0,.int .i64 0] 147 (0,0)):=hbV;have bl0:Below w.heap.size w wr:=hBV;obtain⟨u1x,hu1⟩:∃u,u=wr.setCell ⟨w.heap.size+1,0,none⟩ (.int .i64 0):=⟨_,rfl⟩
    have hb1:u1x.heap[w.heap.size+1]? =some (.cells #[.int .i64 0,.int .i64 0,.int .i64 0,.int .i64 0,.int .i64 0,.int .i64 0] 147 (0,0)):=by rw[hu1];exact set_known _ hb0
    have bl1:Below w.heap.size w u1x:=by rw[hu1];exact bl0.setCell (p:=⟨w.heap.size+1,0,none⟩) (by simp) _
    have e0:wr.cell? ⟨w.heap.size+1,0,none⟩=some (.int .i64 0):=cell_of hb0 rfl;have ef0:wr.frozen? ⟨w.heap.size+1,0,none⟩=false:=frozen_of hb0;have es0:wr.setCell ⟨w.heap.size+1,0,none⟩ (.int .i64 0)=u1x:=hu1.symm;obtain⟨u2x,hu2⟩:∃u,u=u1x.setCell ⟨w.heap.size+1,1,none⟩ (.int .i64 0):=⟨_,rfl⟩
    have hb2:u2x.heap[w.heap.size+1]? =some (.cells #[.int .i64 0,.int .i64 0,.int .i64 0,.int .i64 0,.int .i64 0,.int .i64 0] 147 (0,0)):=by rw[hu2];exact set_known _ hb1
    have bl2:Below w.heap.size w u2x:=by rw[hu2];exact bl1.setCell (p:=⟨w.heap.size+1,1,none⟩) (by simp) _
    have e1:u1x.cell? ⟨w.heap.size+1,1,none⟩=some (.int .i64 0):=cell_of hb1 rfl;have ef1:u1x.frozen? ⟨w.heap.size+1,1,none⟩=false:=frozen_of hb1;have es1:u1x.setCell ⟨w.heap.size+1,1,none⟩ (.int .i64 0)=u2x:=hu2.symm;obtain⟨u3x,hu3⟩:∃u,u=u2x.setCell ⟨w.heap.size+1,2,none⟩ (.int .i64 0):=⟨_,rfl⟩
    have hb3:u3x.heap[w.heap.size+1]? =some (.cells #[.int .i64 0,.int .i64 0,.int .i64 0,.int .i64 0,.int .i64 0,.int .i64 0] 147 (0,0)):=by rw[hu3];exact set_known _ hb2
    have bl3:Below w.heap.size w u3x:=by rw[hu3];exact bl2.setCell (p:=⟨w.heap.size+1,2,none⟩) (by simp) _
    have e2:u2x.cell? ⟨w.heap.size+1,2,none⟩=some (.int .i64 0):=cell_of hb2 rfl;have ef2:u2x.frozen? ⟨w.heap.size+1,2,none⟩=false:=frozen_of hb2;have es2:u2x.setCell ⟨w.heap.size+1,2,none⟩ (.int .i64 0)=u3x:=hu3.symm;obtain⟨u4x,hu4⟩:∃u,u=u3x.setCell ⟨w.heap.size+1,3,none⟩ (.int .i64 0):=⟨_,rfl⟩
    have hb4:u4x.heap[w.heap.size+1]? =some (.cells #[.int .i64 0,.int .i64 0,.int .i64 0,.int .i64 0,.int .i64 0,.int .i64 0] 147 (0,0)):=by rw[hu4];exact set_known _ hb3
    have bl4:Below w.heap.size w u4x:=by rw[hu4];exact bl3.setCell (p:=⟨w.heap.size+1,3,none⟩) (by simp) _
    have e3:u3x.cell? ⟨w.heap.size+1,3,none⟩=some (.int .i64 0):=cell_of hb3 rfl;have ef3:u3x.frozen? ⟨w.heap.size+1,3,none⟩=false:=frozen_of hb3;have es3:u3x.setCell ⟨w.heap.size+1,3,none⟩ (.int .i64 0)=u4x:=hu4.symm;obtain⟨u5x,hu5⟩:∃u,u=u4x.setCell ⟨w.heap.size+1,4,none⟩ (.int .i64 0):=⟨_,rfl⟩
    have hb5:u5x.heap[w.heap.size+1]? =some (.cells #[.int .i64 0,.int .i64 0,.int .i64 0,.int .i64 0,.int .i64 0,.int .i64 0] 147 (0,0)):=by rw[hu5];exact set_known _ hb4
    have bl5:Below w.heap.size w u5x:=by rw[hu5];exact bl4.setCell (p:=⟨w.heap.size+1,4,none⟩) (by simp) _
    have e4:u4x.cell? ⟨w.heap.size+1,4,none⟩=some (.int .i64 0):=cell_of hb4 rfl;have ef4:u4x.frozen? ⟨w.heap.size+1,4,none⟩=false:=frozen_of hb4;have es4:u4x.setCell ⟨w.heap.size+1,4,none⟩ (.int .i64 0)=u5x:=hu5.symm;obtain⟨u6x,hu6⟩:∃u,u=u5x.setCell ⟨w.heap.size+1,5,none⟩ (.int .i64 0):=⟨_,rfl⟩
    have hb6:u6x.heap[w.heap.size+1]? =some (.cells #[.int .i64 0,.int .i64 0,.int .i64 0,.int .i64 0,.int .i64 0,.int .i64 0] 147 (0,0)):=by rw[hu6];exact set_known _ hb5
    have bl6:Below w.heap.size w u6x:=by rw[hu6];exact bl5.setCell (p:=⟨w.heap.size+1,5,none⟩) (by simp) _
    have e5:u5x.cell? ⟨w.heap.size+1,5,none⟩=some (.int .i64 0):=cell_of hb5 rfl;have ef5:u5x.frozen? ⟨w.heap.size+1,5,none⟩=false:=frozen_of hb5;have es5:u5x.setCell ⟨w.heap.size+1,5,none⟩ (.int .i64 0)=u6x:=hu6.symm;have g0:u6x.cell? ⟨w.heap.size+1,0,none⟩=some (.int .i64 0):=cell_of hb6 rfl;have g1:u6x.cell? ⟨w.heap.size+1,1,none⟩=some (.int .i64 0):=cell_of hb6 rfl;have g2:u6x.cell? ⟨w.heap.size+1,2,none⟩=some (.int .i64 0):=cell_of hb6 rfl;have g3:u6x.cell? ⟨w.heap.size+1,3,none⟩=some (.int .i64 0):=cell_of hb6 rfl;have g4:u6x.cell? ⟨w.heap.size+1,4,none⟩=some (.int .i64 0):=cell_of hb6 rfl;have g5:u6x.cell? ⟨w.heap.size+1,5,none⟩=some (.int .i64 0):=cell_of hb6 rfl;clear hb1 hu1 hb2 hu2 hb3 hu3 hb4 hu4 hb5 hu5 hb6 hu6 hb0 bl0 bl1 bl2 bl3 bl4 bl5;clear hbV hBV;have HBL:Hid (Below w.heap.size w u6x):=bl6;clear bl6;go_wp2_with fail;refine bodyPost_ret (v:=.agg #[.int .i64 0,.int .i64 0,.int .i64 0,.int .i64 0,.int .i64 0,.int .i64 0]) (by simp[results,Tryz.results107,go_sem,g0,g1,g2,g3,g4,g5]) rfl ?_;exact⟨_,rfl,HBD,HBL⟩
   ·have hmt:=hlast.resolve_left h20;have hgi:=bond_at i (by omega);have hi20:(i:Int)<20:=by omega
    have hk2:(bd i 2==a.o)=true:=by rw[beq_iff_eq];exact hmt.2
    have hk3:(bd i 1==a.k)=true:=by rw[beq_iff_eq];exact hmt.1
    have HBD:Hid (Bd a #[.int .i64 (bd i 0),.int .i64 (bd i 1),.int .i64 (bd i 2),.int .i64 (bd i 3),.int .i64 (bd i 4),.int .i64 (bd i 5)]):=.inl ⟨i,by omega,hmt.1,hmt.2,rfl⟩;clear hne hlast HF HI hB0 hb hmt h20 hm;generalize bd i 0=b0 at*;generalize bd i 1=b1 at*;generalize bd i 2=b2 at*;generalize bd i 3=b3 at*;generalize bd i 4=b4 at*;generalize bd i 5=b5 at*;go_upto_region 5 with fail;have hI:=(uh HN) (.cells #[.int .i64 b0,.int .i64 b1,.int .i64 b2,.int .i64 b3,.int .i64 b4,.int .i64 b5] 147)
    have hA:=alloc_at wr #[.int .i64 b0,.int .i64 b1,.int .i64 b2,.int .i64 b3,.int .i64 b4,.int .i64 b5] 147;obtain⟨V0,hV0⟩:∃V0,V0=wr.alloc (.cells #[.int .i64 b0,.int .i64 b1,.int .i64 b2,.int .i64 b3,.int .i64 b4,.int .i64 b5] 147):=⟨_,rfl⟩
    rw[<-hV0]at hI hA⊢;have q0:V0.cell? ⟨wr.heap.size,0,none⟩=some (.int .i64 b0):=cell_of hA rfl;have q1:V0.cell? ⟨wr.heap.size,1,none⟩=some (.int .i64 b1):=cell_of hA rfl;have q2:V0.cell? ⟨wr.heap.size,2,none⟩=some (.int .i64 b2):=cell_of hA rfl;have q3:V0.cell? ⟨wr.heap.size,3,none⟩=some (.int .i64 b3):=cell_of hA rfl;have q4:V0.cell? ⟨wr.heap.size,4,none⟩=some (.int .i64 b4):=cell_of hA rfl;have q5:V0.cell? ⟨wr.heap.size,5,none⟩=some (.int .i64 b5):=cell_of hA rfl;have hbV:V0.heap[w.heap.size+1]? =some (.cells #[.int .i64 0,.int .i64 0,.int .i64 0,.int .i64 0,.int .i64 0,.int .i64 0] 147 (0,0)):=hI.hb;have hBV:=hI.bel;clear hI hA hV0 HN hne0 hlt c0 c4;have hb0:V0.heap[w.heap.size+1]? =some (.cells #[.int .i64 0,.int .i64 0,.int .i64 0,.int .i64 0,.int .i64 0,.int .i64 0] 147 (0,0)):=hbV;have bl0:Below w.heap.size w V0:=hBV;obtain⟨u1x,hu1⟩:∃u,u=V0.setCell ⟨w.heap.size+1,0,none⟩ (.int .i64 b0):=⟨_,rfl⟩
    have hb1:u1x.heap[w.heap.size+1]? =some (.cells #[.int .i64 b0,.int .i64 0,.int .i64 0,.int .i64 0,.int .i64 0,.int .i64 0] 147 (0,0)):=by rw[hu1];exact set_known _ hb0
    have bl1:Below w.heap.size w u1x:=by rw[hu1];exact bl0.setCell (p:=⟨w.heap.size+1,0,none⟩) (by simp) _
    have e0:V0.cell? ⟨w.heap.size+1,0,none⟩=some (.int .i64 0):=cell_of hb0 rfl;have ef0:V0.frozen? ⟨w.heap.size+1,0,none⟩=false:=frozen_of hb0;have es0:V0.setCell ⟨w.heap.size+1,0,none⟩ (.int .i64 b0)=u1x:=hu1.symm;obtain⟨u2x,hu2⟩:∃u,u=u1x.setCell ⟨w.heap.size+1,1,none⟩ (.int .i64 b1):=⟨_,rfl⟩
    have hb2:u2x.heap[w.heap.size+1]? =some (.cells #[.int .i64 b0,.int .i64 b1,.int .i64 0,.int .i64 0,.int .i64 0,.int .i64 0] 147 (0,0)):=by rw[hu2];exact set_known _ hb1
    have bl2:Below w.heap.size w u2x:=by rw[hu2];exact bl1.setCell (p:=⟨w.heap.size+1,1,none⟩) (by simp) _
    have e1:u1x.cell? ⟨w.heap.size+1,1,none⟩=some (.int .i64 0):=cell_of hb1 rfl;have ef1:u1x.frozen? ⟨w.heap.size+1,1,none⟩=false:=frozen_of hb1;have es1:u1x.setCell ⟨w.heap.size+1,1,none⟩ (.int .i64 b1)=u2x:=hu2.symm;obtain⟨u3x,hu3⟩:∃u,u=u2x.setCell ⟨w.heap.size+1,2,none⟩ (.int .i64 b2):=⟨_,rfl⟩
    have hb3:u3x.heap[w.heap.size+1]? =some (.cells #[.int .i64 b0,.int .i64 b1,.int .i64 b2,.int .i64 0,.int .i64 0,.int .i64 0] 147 (0,0)):=by rw[hu3];exact set_known _ hb2
    have bl3:Below w.heap.size w u3x:=by rw[hu3];exact bl2.setCell (p:=⟨w.heap.size+1,2,none⟩) (by simp) _
    have e2:u2x.cell? ⟨w.heap.size+1,2,none⟩=some (.int .i64 0):=cell_of hb2 rfl;have ef2:u2x.frozen? ⟨w.heap.size+1,2,none⟩=false:=frozen_of hb2;have es2:u2x.setCell ⟨w.heap.size+1,2,none⟩ (.int .i64 b2)=u3x:=hu3.symm;obtain⟨u4x,hu4⟩:∃u,u=u3x.setCell ⟨w.heap.size+1,3,none⟩ (.int .i64 b3):=⟨_,rfl⟩
    have hb4:u4x.heap[w.heap.size+1]? =some (.cells #[.int .i64 b0,.int .i64 b1,.int .i64 b2,.int .i64 b3,.int .i64 0,.int .i64 0] 147 (0,0)):=by rw[hu4];exact set_known _ hb3
    have bl4:Below w.heap.size w u4x:=by rw[hu4];exact bl3.setCell (p:=⟨w.heap.size+1,3,none⟩) (by simp) _
    have e3:u3x.cell? ⟨w.heap.size+1,3,none⟩=some (.int .i64 0):=cell_of hb3 rfl;have ef3:u3x.frozen? ⟨w.heap.size+1,3,none⟩=false:=frozen_of hb3;have es3:u3x.setCell ⟨w.heap.size+1,3,none⟩ (.int .i64 b3)=u4x:=hu4.symm;obtain⟨u5x,hu5⟩:∃u,u=u4x.setCell ⟨w.heap.size+1,4,none⟩ (.int .i64 b4):=⟨_,rfl⟩
    have hb5:u5x.heap[w.heap.size+1]? =some (.cells #[.int .i64 b0,.int .i64 b1,.int .i64 b2,.int .i64 b3,.int .i64 b4,.int .i64 0] 147 (0,0)):=by rw[hu5];exact set_known _ hb4
    have bl5:Below w.heap.size w u5x:=by rw[hu5];exact bl4.setCell (p:=⟨w.heap.size+1,4,none⟩) (by simp) _
    have e4:u4x.cell? ⟨w.heap.size+1,4,none⟩=some (.int .i64 0):=cell_of hb4 rfl;have ef4:u4x.frozen? ⟨w.heap.size+1,4,none⟩=false:=frozen_of hb4;have es4:u4x.setCell ⟨w.heap.size+1,4,none⟩ (.int .i64 b4)=u5x:=hu5.symm;obtain⟨u6x,hu6⟩:∃u,u=u5x.setCell ⟨w.heap.size+1,5,none⟩ (.int .i64 b5):=⟨_,rfl⟩
    have hb6:u6x.heap[w.heap.size+1]? =some (.cells #[.int .i64 b0,.int .i64 b1,.int .i64 b2,.int .i64 b3,.int .i64 b4,.int .i64 b5] 147 (0,0)):=by rw[hu6];exact set_known _ hb5
    have bl6:Below w.heap.size w u6x:=by rw[hu6];exact bl5.setCell (p:=⟨w.heap.size+1,5,none⟩) (by simp) _
    have e5:u5x.cell? ⟨w.heap.size+1,5,none⟩=some (.int .i64 0):=cell_of hb5 rfl;have ef5:u5x.frozen? ⟨w.heap.size+1,5,none⟩=false:=frozen_of hb5;have es5:u5x.setCell ⟨w.heap.size+1,5,none⟩ (.int .i64 b5)=u6x:=hu6.symm;have g0:u6x.cell? ⟨w.heap.size+1,0,none⟩=some (.int .i64 b0):=cell_of hb6 rfl;have g1:u6x.cell? ⟨w.heap.size+1,1,none⟩=some (.int .i64 b1):=cell_of hb6 rfl;have g2:u6x.cell? ⟨w.heap.size+1,2,none⟩=some (.int .i64 b2):=cell_of hb6 rfl;have g3:u6x.cell? ⟨w.heap.size+1,3,none⟩=some (.int .i64 b3):=cell_of hb6 rfl;have g4:u6x.cell? ⟨w.heap.size+1,4,none⟩=some (.int .i64 b4):=cell_of hb6 rfl;have g5:u6x.cell? ⟨w.heap.size+1,5,none⟩=some (.int .i64 b5):=cell_of hb6 rfl;clear hb1 hu1 hb2 hu2 hb3 hu3 hb4 hu4 hb5 hu5 hb6 hu6 hb0 bl0 bl1 bl2 bl3 bl4 bl5;clear hbV hBV;have HBL:Hid (Below w.heap.size w u6x):=bl6;clear bl6;go_wp2_with fail;refine bodyPost_ret (v:=.agg #[.int .i64 b0,.int .i64 b1,.int .i64 b2,.int .i64 b3,.int .i64 b4,.int .i64 b5]) (by simp[results,Tryz.results107,go_sem,g0,g1,g2,g3,g4,g5]) rfl ?_;exact⟨_,rfl,HBD,HBL⟩
theorem qx_one(w:World)(b:Nat)(cd:Addr)(n cf:Nat)(F:Nat->Gv)(t:Nat)(hncf:n<=cf)(hn:n<=3000)(HQ:Qe w b cd n cf F t ki X)(hg:W.heap[g]? =some (.cells #[.int .i64 (ki:Int)] T fz))(hT:T≠5)(hgb:g≠b)(h:Wq w b (.slice (some cd) n cf) t l W):
  Calls Tryz.prog 62 #[.pointer (some ⟨b,0,none⟩),.slice (some ⟨g,0,none⟩) 1 cap] W λe w'=>e=.returned (.tuple #[])/\Wq w b (.slice (some cd) n cf) t (l++X) w'/\Lib.OthersKept 5 (some b) W w':=by
 have H1:Hid (Wq w b (.slice (some cd) n cf) t (l++(if(0:Nat)=0 then []else X)) W/\Lib.OthersKept 5 (some b) W W):=(⟨by rw[if_pos rfl,List.append_nil];exact h,Lib.OthersKept.refl _ _ _⟩:_/\_)
 have HR:Hid (∀wr,Lib.OthersKept 5 (some b) W wr->wr.cell? ⟨g,0,none⟩=some (.int .i64 ki)):=(λwr hO=>by
  have:=hO g _ hg (by simpa using hgb) (λc fz e=>by injection e with _ e2;exact hT e2);unfold World.cell?;rw[this]
  rfl:∀wr,_->_)
 have HCF:Hid (n<=cf/\n<=3000):=(⟨hncf,hn⟩:_/\_)
 have HQH:Hid (Qe w b cd n cf F t ki X):=HQ;clear h hg hT hgb hncf hn HQ;go_enter Tryz.func62,Tryz.ntmps62;go_wp2_with fail
 go_loopw [8] (λs8 wr=>∃i:Nat,s8=.int .i64 i/\i<=1/\Hid (Wq w b (.slice (some cd) n cf) t (l++(if i=0 then []else X)) wr/\Lib.OthersKept 5 (some b) W wr)) (λs8 _=>1-(intOf s8).toNat)
 case atStart=>exact⟨0,rfl,Nat.zero_le _,H1⟩
 case round=>
  clear H1;obtain⟨i,rfl,hip,HX⟩:=hrel;obtain⟨hX,hO⟩:=(uh HX)
  have hi2:i=0\/i=1:=by omega
  rcases hi2 with rfl|rfl
  ·have ca:=(uh HR) wr hO;obtain⟨hcf,hn⟩:=(uh HCF)
   obtain⟨hkn,vn,vk,hc9,hq⟩:=(uh HQH)
   rw[if_pos rfl,List.append_nil]at hX;have hkI:(ki:Int)<(n:Int):=by omega
   have hnI:(n:Int)<=3000:=by omega
   have HO:Hid (Lib.OthersKept 5 (some b) W wr):=hO;obtain⟨d0,d1,d2,d3,d4,d5,d6,d7,d8⟩:=hc9.kz hX.bel;have c0:=hX.frm;have HC:=hq l wr hX;unfold fmv at HC;clear hX HX hO hq hc9;go_wp2_with fail;refine HC.mono ?_;rintro e w2 ⟨rfl,h2,ho2⟩
   have HN:Hid (Wq w b (.slice (some cd) n cf) t (l++(if(1:Nat)=0 then []else X)) w2/\Lib.OthersKept 5 (some b) W w2):=by
    refine(⟨?_,(uh HO).trans ho2⟩:_/\_);rw[if_neg (by decide)];exact h2
   clear HC h2 ca ho2 HO c0 d0 d1 d2 d3 d4 d5 d6 d7 d8;go_wp2_with fail;go_roundw
   case rel=>exact⟨1,by go_num,by omega,HN⟩
   case measure=>simp[intOf]
  ·rw[if_neg (by decide)]at hX;have HN:Hid (Wq w b (.slice (some cd) n cf) t (l++X) wr/\Lib.OthersKept 5 (some b) W wr):=(⟨hX,hO⟩:_/\_)
   clear hX hO HX;go_wp2_with fail;exact⟨rfl,.tuple #[],by simp[results,Tryz.results62],rfl,HN⟩
theorem qx_enc1(w:World)(b:Nat)(cd:Addr)(n cf:Nat)(F:Nat->Gv)(t:Nat)(hncf:n<=cf)(hn:n<=3000)(HQ:Qe w b cd n cf F t ki X)(o c:ByteArray)(ho:o.size<=1000000000)(hc:c.size<=1000000000)(hg:W.heap[g]? =some (.cells #[.int .i64 (ki:Int)] T fz))(hT:T≠5)(hgb:g≠b)(h:Wq w b (.slice (some cd) n cf) t l W):
  Calls Tryz.prog 112 #[.pointer (some ⟨b,0,none⟩),.string o,.slice (some ⟨g,0,none⟩) 1 cap,.string c] W λe w'=>e=.returned (.tuple #[])/\Wq w b (.slice (some cd) n cf) t (l++(byt o++X++byt c)) w'/\Lib.OthersKept 5 (some b) W w':=by
 have H1:=λT hT=>say1 w b (.slice (some cd) n cf) t o ho h T hT;have HC:Hid (c.size<=1000000000):=hc;have HLL:Hid (∀l w1,Wq w b (.slice (some cd) n cf) t l w1->Lib.OthersKept 5 (some b) W w1->Calls Tryz.prog 62 #[.pointer (some ⟨b,0,none⟩),.slice (some ⟨g,0,none⟩) 1 cap] w1 λe w'=>e=.returned (.tuple #[])/\Wq w b (.slice (some cd) n cf) t (l++X) w'/\Lib.OthersKept 5 (some b) w1 w'):=(λl w1 h1 o1=>qx_one w b cd n cf F t hncf hn HQ (o1 g _ hg (by simpa using hgb) (λc fz e=>by injection e with _ e2;exact hT e2)) hT hgb h1:∀l w1,_->_->_)
 clear h ho hc hg hT hgb HQ hncf hn;go_enter Tryz.func112,Tryz.ntmps112;go_wp2_with fail;refine(H1 _ (by decide)).mono ?_;rintro e w1 ⟨rfl,h1,o1⟩;have HO1:Hid (Lib.OthersKept 5 (some b) W w1):=o1;have H2:=(uh HLL) _ w1 h1 o1;clear H1 h1 o1 HLL;go_wp2_with fail;refine H2.mono ?_;rintro e w2 ⟨rfl,h2,o2⟩;have HO2:Hid (Lib.OthersKept 5 (some b) W w2):=(uh HO1).trans o2;have H3:=λT hT=>say1 w b (.slice (some cd) n cf) t c (uh HC) h2 T hT;clear H2 h2 o2 HC HO1;go_wp2_with fail;refine(H3 _ (by decide)).mono ?_;rintro e w3 ⟨rfl,h3,o3⟩
 have HN:Hid (Wq w b (.slice (some cd) n cf) t (l++(byt o++X++byt c)) w3/\Lib.OthersKept 5 (some b) W w3):=by
  refine(⟨?_,(uh HO2).trans o3⟩:_/\_)
  simpa only[List.append_assoc]using h3
 clear H3 h3 o3 HO2;go_wp2_with fail;exact⟨rfl,.tuple #[],by simp[results,Tryz.results112],rfl,HN⟩
theorem qb_yes(w:World)(b:Nat)(cd:Addr)(n cf:Nat)(F:Nat->Gv)(t:Nat)(hncf:n<=cf)(hn:n<=3000)(HQ:Qe w b cd n cf F t ki X)(hk:(F ki).a.k=26\/(F ki).a.k=32\/(F ki).a.k=33\/(F ki).a.k=34\/(F ki).a.k=37):
  Cq w b (.slice (some cd) n cf) t 110 #[.pointer (some ⟨b,0,none⟩),.int .i64 ki] X:=by
 intro l W h;obtain⟨hkn,vn,vk,hc9,hq⟩:=HQ;have hkI:(ki:Int)<(n:Int):=by omega
 have hnI:(n:Int)<=3000:=by omega
 obtain⟨d0,d1,d2,d3,d4,d5,d6,d7,d8⟩:=hc9.kz h.bel;have c0:=h.frm;have HC:=hq l W h;unfold fmv at HC;clear h hc9 hq;rcases hk with e|e|e|e|e
 all_goals
  rw[e]at d0 HC;clear e;go_enter Tryz.func110,Tryz.ntmps110;go_wp2_with fail;refine HC.mono ?_;rintro e w2 ⟨rfl,h2,o2⟩;have HN:Hid (Wq w b (.slice (some cd) n cf) t (l++X) w2/\Lib.OthersKept 5 (some b) W w2):=(⟨h2,o2⟩:_/\_)
  clear HC h2 o2 c0 d0 d1 d2 d3 d4 d5 d6 d7 d8;go_wp2_with fail;exact⟨rfl,.tuple #[],by simp[results,Tryz.results110],rfl,HN⟩
theorem qb_no(w:World)(b:Nat)(cd:Addr)(n cf:Nat)(F:Nat->Gv)(t:Nat)(hncf:n<=cf)(hn:n<=3000)(HQ:Qe w b cd n cf F t ki X)(hk:¬((F ki).a.k=26\/(F ki).a.k=32\/(F ki).a.k=33\/(F ki).a.k=34\/(F ki).a.k=37)):
  Cq w b (.slice (some cd) n cf) t 110 #[.pointer (some ⟨b,0,none⟩),.int .i64 ki] (40::(X++[41])):=by
 intro l W h;have HE:=λcap T hT=>qx_enc1 w b cd n cf F t hncf hn HQ ⟨#[40]⟩ ⟨#[41]⟩ (by decide) (by decide) (cap:=cap) (alloc_at W #[.int .i64 ki] T) hT (by have:=h.lt;omega) (h.call (bel1 W _));have HO:Hid (∀o,Lib.OthersKept 5 (some b) W (W.alloc o)):=(λo=>(Lib.OthersKept.refl _ _ _).alloc o:∀o,_)
 obtain⟨hkn,vn,vk,hc9,hq⟩:=HQ;have hkI:(ki:Int)<(n:Int):=by omega
 have hnI:(n:Int)<=3000:=by omega
 obtain⟨d0,d1,d2,d3,d4,d5,d6,d7,d8⟩:=hc9.kz h.bel;have c0:=h.frm;have n1:((F ki).a.k==26)=false:=by rw[beq_eq_false_iff_ne];omega
 have n2:((F ki).a.k==32)=false:=by rw[beq_eq_false_iff_ne];omega
 have n3:((F ki).a.k==33)=false:=by rw[beq_eq_false_iff_ne];omega
 have n4:((F ki).a.k==34)=false:=by rw[beq_eq_false_iff_ne];omega
 have n5:((F ki).a.k==37)=false:=by rw[beq_eq_false_iff_ne];omega
 clear h hc9 hq hk d1 d2 d3 d4 d5 d6 d7 d8;go_enter Tryz.func110,Tryz.ntmps110;go_wp2_with fail;refine(HE _ _ (by decide)).mono ?_;rintro e w2 ⟨rfl,h2,o2⟩
 have HN:Hid (Wq w b (.slice (some cd) n cf) t (l++(40::(X++[41]))) w2/\Lib.OthersKept 5 (some b) W w2):=by
  refine(⟨?_,((uh HO) _).trans o2⟩:_/\_);exact h2
 clear HE h2 o2 c0 d0 HO;go_wp2_with fail;exact⟨rfl,.tuple #[],by simp[results,Tryz.results110],rfl,HN⟩
theorem qb_base(w:World)(b:Nat)(cd:Addr)(n cf:Nat)(F:Nat->Gv)(t:Nat)(hncf:n<=cf)(hn:n<=3000)(HQ:Qe w b cd n cf F t ki X):
  Cq w b (.slice (some cd) n cf) t 110 #[.pointer (some ⟨b,0,none⟩),.int .i64 ki] (bsk (F ki).a.k X):=by
 unfold bsk;by_cases hk:(F ki).a.k=26\/(F ki).a.k=32\/(F ki).a.k=33\/(F ki).a.k=34\/(F ki).a.k=37
 ·rw[if_pos hk];exact qb_yes w b cd n cf F t hncf hn HQ hk
 ·rw[if_neg hk];exact qb_no w b cd n cf F t hncf hn HQ hk
theorem bd_row:∀m:Fin 20,(if bd m.val 1=29 then 1 else if bd m.val 1=28 then 2 else if bd m.val 1=31 then bpo (bd m.val 2)else if bd m.val 1=30 then 11 else 12)=bd m.val 3/\0<bd m.val 3:=by decide+kernel
theorem bd_31:∀o:Fin 18,∃j,j<20/\bd j 1=31/\bd j 2=(o.val:Int)+1:=by decide+kernel
theorem Bd.pw{r:Array Value}(h:Bd a r)(h1:a.k=28\/a.k=29->a.o=0)(h2:a.k=31->1<=a.o/\a.o<=18):∃x0 x1 x2 p x4 x5:Int,r=#[.int .i64 x0,.int .i64 x1,.int .i64 x2,.int .i64 p,.int .i64 x4,.int .i64 x5]/\∀le:Int,le<=11->((0<p/\p<le)↔pwf a<le):=by
 rcases h with⟨m,hm,e1,e2,rfl⟩|⟨hno,rfl⟩
 ·refine⟨_,_,_,_,_,_,rfl,λle _=>?_⟩;obtain⟨q1,q2⟩:=bd_row ⟨m,hm⟩
  have q1':pwf a=bd m 3:=by
   unfold pwf;rw[<-e1,<-e2];exact q1
  rw[q1'];exact⟨λh=>h.2,λh=>⟨q2,h⟩⟩
 ·refine⟨0,0,0,0,0,0,rfl,λle hle=>⟨λh=>absurd h.1 (by decide),λh=>?_⟩⟩;exfalso;have n29:a.k≠29:=λe=>hno 0 (by decide) ⟨by rw[e];rfl,by rw[h1 (.inr e)];rfl⟩;have n28:a.k≠28:=λe=>hno 1 (by decide) ⟨by rw[e];rfl,by rw[h1 (.inl e)];rfl⟩
  have n31:a.k≠31:=λe=>by
   obtain⟨o1,o2⟩:=h2 e;obtain⟨j,hj,e1,e2⟩:=bd_31 ⟨(a.o-1).toNat,by omega⟩;refine hno j hj ⟨by rw[e1,e],?_⟩;rw[e2];show(((a.o-1).toNat:Nat):Int)+1=a.o;omega
  unfold pwf at h;rw[if_neg n29,if_neg n28,if_neg n31]at h;split at h<;>omega
theorem qo_operand(w:World)(b:Nat)(cd:Addr)(n cf:Nat)(F:Nat->Gv)(t:Nat)(hncf:n<=cf)(hn:n<=3000)(HQ:Qe w b cd n cf F t ki X)(hu:w.rangeAt 4 0 bondA.toList)(hgs:12<=w.heap.size)
    (h1:(F ki).a.k=28\/(F ki).a.k=29->(F ki).a.o=0) (h2:(F ki).a.k=31->1<=(F ki).a.o/\(F ki).a.o<=18) (le:Int) (hle:le<=11):
    Cq w b (.slice (some cd) n cf) t 108 #[.pointer (some ⟨b,0,none⟩),.int .i64 ki,.int .i64 le] (par X (pwf (F ki).a) le):=by
  intro l W h;have hB:=h.bel;have HE:Hid (∀V,Wq w b (.slice (some cd) n cf) t l V->∀T,T≠5->Calls Tryz.prog 112 #[.pointer (some ⟨b,0,none⟩),.string ⟨#[40]⟩,.slice (some ⟨V.heap.size,0,none⟩) 1 1,.string ⟨#[41]⟩] (V.alloc (.cells #[.int .i64 ki] T)) λe w'=>e=.returned (.tuple #[])/\Wq w b (.slice (some cd) n cf) t (l++(byt ⟨#[40]⟩++X++byt ⟨#[41]⟩)) w'/\Lib.OthersKept 5 (some b) (V.alloc (.cells #[.int .i64 ki] T)) w'):=(λV hV T hT=>qx_enc1 w b cd n cf F t hncf hn HQ ⟨#[40]⟩ ⟨#[41]⟩ (by decide) (by decide) (cap:=1) (alloc_at V #[.int .i64 ki] T) hT (by have:=hV.lt;omega) (hV.call (bel1 V _)):∀V,_->∀T,_->_)
  obtain⟨hkn,vn,vk,hc9,hq⟩:=HQ;have hkI:(ki:Int)<(n:Int):=by omega
  have hnI:(n:Int)<=3000:=by omega
  have HQQ:Hid (Cq w b (.slice (some cd) n cf) t 94 #[.pointer (some ⟨b,0,none⟩),fmv (F ki).a vn vk] X/\Cel9 w (cd.add (ki*9)) (F ki).a vn vk/\Wq w b (.slice (some cd) n cf) t l W):=(⟨hq,hc9,h⟩:_/\_/\_)
  obtain⟨d0,d1,d2,d3,d4,d5,d6,d7,d8⟩:=hc9.kz h.bel;have c0:=h.frm;have HBO:=im_bond (F ki).a vn vk W (λj v hv=>(hB.cell (p:=⟨4,0+j,none⟩) (by show 4<_;omega)).trans (hu j v hv)) (by have:=hB.size;omega);unfold fmv at HBO;have HH:Hid (((F ki).a.k=28\/(F ki).a.k=29->(F ki).a.o=0)/\((F ki).a.k=31->1<=(F ki).a.o/\(F ki).a.o<=18)/\le<=11):=(⟨h1,h2,hle⟩:_/\_/\_)
  clear h hB hc9 hq hu hgs h1 h2 hle hkn;go_enter Tryz.func108,Tryz.ntmps108;go_wp2_with fail;refine HBO.mono ?_;rintro e w1 ⟨r,rfl,hbd,b1⟩;obtain⟨hh1,hh2,hle⟩:=(uh HH)
  obtain⟨x0,x1,x2,p,x4,x5,rfl,hp⟩:=hbd.pw hh1 hh2;have hp:=hp le hle;have HB1:Hid (Below W.heap.size W w1):=b1;clear HBO hbd b1 c0 d0 d1 d2 d3 d4 d5 d6 d7 d8 HH hh1 hh2 hle;by_cases hlt:pwf (F ki).a<le
  · obtain⟨g1,g2⟩:=hp.2 hlt
    have HPA:Hid (par X (pwf (F ki).a) le=byt ⟨#[40]⟩++X++byt ⟨#[41]⟩):=by
      show _=_;unfold par;rw[if_pos hlt];rfl
    have HO:Hid (∀o o2,Lib.OthersKept 5 (some b) W ((w1.alloc o).alloc o2)):=(λo o2=>((Wq.oth (uh HB1)).alloc o).alloc o2:∀o o2,_)
    have hA:=alloc_at w1 #[.int .i64 x0,.int .i64 x1,.int .i64 x2,.int .i64 p,.int .i64 x4,.int .i64 x5] 147;have HV1:Hid (Wq w b (.slice (some cd) n cf) t l (w1.alloc (.cells #[.int .i64 x0,.int .i64 x1,.int .i64 x2,.int .i64 p,.int .i64 x4,.int .i64 x5] 147))/\∀o2,Lib.OthersKept 5 (some b) W ((w1.alloc (.cells #[.int .i64 x0,.int .i64 x1,.int .i64 x2,.int .i64 p,.int .i64 x4,.int .i64 x5] 147)).alloc o2)):=(⟨((uh HQQ).2.2.call (uh HB1)).call (bel1 w1 _),(uh HO) _⟩:_/\_)
    clear hp hlt HB1 HQQ HO;go_upto_region 1 with fail;obtain⟨V,hV⟩:∃V,V=w1.alloc (.cells #[.int .i64 x0,.int .i64 x1,.int .i64 x2,.int .i64 p,.int .i64 x4,.int .i64 x5] 147):=⟨_,rfl⟩
    rw[<-hV]at hA HV1⊢;have q3:V.cell? ⟨w1.heap.size,3,none⟩=some (.int .i64 p):=cell_of hA rfl;clear hA hV;go_wp2_with fail;refine((uh HE) V (uh HV1).1 _ (by decide)).mono ?_;rintro e w2 ⟨rfl,h2,o2⟩
    have HN:Hid (Wq w b (.slice (some cd) n cf) t (l++par X (pwf (F ki).a) le) w2/\Lib.OthersKept 5 (some b) W w2):=by
      refine(⟨?_,((uh HV1).2 _).trans o2⟩:_/\_);rw[show par X (pwf (F ki).a) le=byt ⟨#[40]⟩++X++byt ⟨#[41]⟩from HPA];exact h2
    clear HE HV1 h2 o2 HPA;go_wp2_with fail;exact⟨rfl,.tuple #[],by simp[results,Tryz.results108],rfl,HN⟩
  · have hno : ¬ (0 : Int) < p ∨ ((0 : Int) < p ∧ ¬ p < le) := by
      by_cases g:(0:Int)<p
      · exact .inr ⟨g,λg2=>hlt (hp.1 ⟨g,g2⟩)⟩
      · exact .inl g
    have HPA:Hid (par X (pwf (F ki).a) le=X):=by
      show _=_;unfold par;rw[if_neg hlt]
    have hA:=alloc_at w1 #[.int .i64 x0,.int .i64 x1,.int .i64 x2,.int .i64 p,.int .i64 x4,.int .i64 x5] 147;have HV1:Hid (Wq w b (.slice (some cd) n cf) t l (w1.alloc (.cells #[.int .i64 x0,.int .i64 x1,.int .i64 x2,.int .i64 p,.int .i64 x4,.int .i64 x5] 147))/\Lib.OthersKept 5 (some b) W (w1.alloc (.cells #[.int .i64 x0,.int .i64 x1,.int .i64 x2,.int .i64 p,.int .i64 x4,.int .i64 x5] 147))):=(⟨((uh HQQ).2.2.call (uh HB1)).call (bel1 w1 _),(Wq.oth (uh HB1)).alloc _⟩:_/\_)
    clear hp hlt HB1 HE;go_upto_region 1 with fail;obtain⟨V,hV⟩:∃V,V=w1.alloc (.cells #[.int .i64 x0,.int .i64 x1,.int .i64 x2,.int .i64 p,.int .i64 x4,.int .i64 x5] 147):=⟨_,rfl⟩
    rw[<-hV]at hA HV1⊢;have q3:V.cell? ⟨w1.heap.size,3,none⟩=some (.int .i64 p):=cell_of hA rfl;clear hA hV;obtain⟨hq,hc9,_⟩:=(uh HQQ)
    obtain⟨hV,hO⟩:=(uh HV1)
    obtain⟨d0,d1,d2,d3,d4,d5,d6,d7,d8⟩:=hc9.kz hV.bel;have c0:=hV.frm;have HC:=hq l V hV;unfold fmv at HC;have HO:Hid (Lib.OthersKept 5 (some b) W V):=hO;clear HQQ HV1 hq hc9 hV hO;rcases hno with g|⟨g,g'⟩
    all_goals
      go_wp2_with fail;refine HC.mono ?_;rintro e w2 ⟨rfl,h2,o2⟩
      have HN:Hid (Wq w b (.slice (some cd) n cf) t (l++par X (pwf (F ki).a) le) w2/\Lib.OthersKept 5 (some b) W w2):=by
        refine(⟨?_,(uh HO).trans o2⟩:_/\_);rw[show par X (pwf (F ki).a) le=X from HPA];exact h2
      clear HC h2 o2 HO HPA c0 d0 d1 d2 d3 d4 d5 d6 d7 d8 q3;go_wp2_with fail;exact⟨rfl,.tuple #[],by simp[results,Tryz.results108],rfl,HN⟩
end Go.Proofs.YtkhdehngobkkfaaGreatDoor.Fo
namespace Go.Proofs.YtkhdehngobkkfaaGreatDoor.Fo
open Go.ChangeShapes Go.WideShapes Go.ChangeAt Go.RowKit
set_option linter.unusedVariables false
variable {w W W':World}{a:Fv}{pn pk:Option Addr}{p cn q ck j n:Nat}{A:Nat->ByteArray}{K:Nat->Int}{v v' v0:Value}{F:Nat->Gv}{x:Int}{P:List Nat}
structure Ls (w W2:World) (a:Fv) (pn:Option Addr) (p cn:Nat) (pk:Option Addr) (q ck:Nat) (A:Nat->ByteArray) (K:Nat->Int):Prop where
 bel:Below w.heap.size w W2
 lt:w.heap.size+1<W2.heap.size
 c6:W2.cell? ⟨w.heap.size,6,none⟩=some (.string a.x)
 c7:W2.cell? ⟨w.heap.size,7,none⟩=some (.slice pn p cn)
 c8:W2.cell? ⟨w.heap.size,8,none⟩=some (.slice pk q ck)
 ci:∀i n,(its a)[i]? =some n->W2.cell? ⟨w.heap.size+1,i,none⟩=some (.int .i64 n)
 rn:0<p->∃b:Addr,pn=some b/\p<=cn/\∀i,i<p->W2.cell? (b.add i)=some (.string (A i))
 rk:0<q->∃b:Addr,pk=some b/\q<=ck/\∀i,i<q->W2.cell? (b.add i)=some (.int .i64 (K i))
theorem Ls.to{W2:World}(h:Ls w W2 a pn p cn pk q ck A K)(hb:Below W2.heap.size W2 W):Ls w W a pn p cn pk q ck A K:=by
 have hl:=h.lt;have e:∀(g j:Nat),g<=w.heap.size+1->W.cell? ⟨g,j,none⟩=W2.cell? ⟨g,j,none⟩:=λg j hg=>hb.cell (p:=⟨g,j,none⟩) (show g<W2.heap.size by omega);refine⟨below_to h.bel hb,Nat.lt_of_lt_of_le hl hb.size,?_,?_,?_,?_,?_,?_⟩
 ·rw[e _ _ (by omega)];exact h.c6
 ·rw[e _ _ (by omega)];exact h.c7
 ·rw[e _ _ (by omega)];exact h.c8
 ·intro i n hi;rw[e _ _ (by omega)];exact h.ci i n hi
 ·intro h0;obtain⟨b,e1,e2,e3⟩:=h.rn h0;exact⟨b,e1,e2,λi hi=>(hb.cell (lt_of_cell' (e3 i hi))).trans (e3 i hi)⟩
 ·intro h0;obtain⟨b,e1,e2,e3⟩:=h.rk h0;exact⟨b,e1,e2,λi hi=>(hb.cell (lt_of_cell' (e3 i hi))).trans (e3 i hi)⟩
theorem gPow:Tryz.prog.globalNamed "internal/strconv.uint64pow10" =some 7:=by kernel_rfl
theorem pw_blk(h:Pw w)(e:W.heap[7]? =w.heap[7]?):Pw W:=by
 unfold Pw Lib.TabIs World.var? at h⊢;rw[gPow]at h⊢;simp only[Option.bind_some]at h⊢;rw[e];exact h
theorem str_one(l:List ByteArray):∀u ∈ l.map Value.string,u.oneCell'=true:=by
 intro u hu;simp at hu;obtain⟨j,_,rfl⟩:=hu;rfl
def f1(a:Fv)(i:Nat):List ByteArray:=((its a).take i).map itx
def f2(a:Fv)(p:Nat):List ByteArray:=f1 a 5++[itx a.m,qt a.x,itx p]
def lsb(f:Nat->ByteArray)(j:Nat):List ByteArray:=(List.range j).map f
theorem lsb_len(f:Nat->ByteArray)(j:Nat):(lsb f j).length=j:=by simp[lsb]
def f3(a:Fv)(p:Nat)(A:Nat->ByteArray):List ByteArray:=f2 a p++lsb A p
def f4(a:Fv)(p:Nat)(A:Nat->ByteArray)(q:Nat):List ByteArray:=f3 a p A++[itx q]
def f5(a:Fv)(p:Nat)(A:Nat->ByteArray)(q:Nat)(K:Nat->Int)(j:Nat):List ByteArray:=f4 a p A q++lsb (λi=>itx (K i)) j
structure Fb (w W:World) (a:Fv) (pn:Option Addr) (p cn:Nat) (pk:Option Addr) (q ck:Nat) (A:Nat->ByteArray) (K:Nat->Int):Prop where
 sz:w.heap.size+2<=W.heap.size
 gs:12<=w.heap.size
 bel:Below w.heap.size w W
 c5:W.cell? ⟨w.heap.size,5,none⟩=some (.int .i64 a.m)
 c6:W.cell? ⟨w.heap.size,6,none⟩=some (.string a.x)
 c7:W.cell? ⟨w.heap.size,7,none⟩=some (.slice pn p cn)
 c8:W.cell? ⟨w.heap.size,8,none⟩=some (.slice pk q ck)
 ci:∀i n,i<5->(its a)[i]? =some n->W.cell? ⟨w.heap.size+1,i,none⟩=some (.int .i64 n)
 rn:0<p->∃b:Addr,pn=some b/\p<=cn/\∀i,i<p->W.cell? (b.add i)=some (.string (A i))
 rk:0<q->∃b:Addr,pk=some b/\q<=ck/\∀i,i<q->W.cell? (b.add i)=some (.int .i64 (K i))
 ln:∀b:Addr,pn=some b->∀i,i<p->(b.add i).block<w.heap.size
 lk:∀b:Addr,pk=some b->∀i,i<q->(b.add i).block<w.heap.size
 pw:Pw W
theorem Fb.to(h:Fb w W a pn p cn pk q ck A K)(hb:Below (w.heap.size+2) W W'):Fb w W' a pn p cn pk q ck A K:=by
 have hl:=h.sz;have hg:=h.gs;have e:∀(g j:Nat),g<=w.heap.size+1->W'.cell? ⟨g,j,none⟩=W.cell? ⟨g,j,none⟩:=λg j hg=>hb.cell (p:=⟨g,j,none⟩) (show g<w.heap.size+2 by omega);refine⟨Nat.le_trans hl hb.size,hg,h.bel.trans (hb.mono (by omega)),?_,?_,?_,?_,?_,?_,?_,h.ln,h.lk,pw_blk h.pw (hb.block _ (by omega))⟩
 ·rw[e _ _ (by omega)];exact h.c5
 ·rw[e _ _ (by omega)];exact h.c6
 ·rw[e _ _ (by omega)];exact h.c7
 ·rw[e _ _ (by omega)];exact h.c8
 ·intro i n h5 hi;rw[e _ _ (by omega)];exact h.ci i n h5 hi
 ·intro h0;obtain⟨b,e1,e2,e3⟩:=h.rn h0;exact⟨b,e1,e2,λi hi=>(hb.cell (p:=b.add i) (by have:=h.ln b e1 i hi;omega)).trans (e3 i hi)⟩
 ·intro h0;obtain⟨b,e1,e2,e3⟩:=h.rk h0;exact⟨b,e1,e2,λi hi=>(hb.cell (p:=b.add i) (by have:=h.lk b e1 i hi;omega)).trans (e3 i hi)⟩
structure Fz (w W:World) (a:Fv) (pn:Option Addr) (p cn:Nat) (pk:Option Addr) (q ck:Nat) (A:Nat->ByteArray) (K:Nat->Int) (xs:List ByteArray) (v:Value):Prop where
 fb:Fb w W a pn p cn pk q ck A K
 row:W.ownsRow (w.heap.size+2) 9 1 v xs.length (xs.map Value.string)
theorem Fz.call{xs:List ByteArray}(h:Fz w W a pn p cn pk q ck A K xs v)(hb:Below W.heap.size W W'):Fz w W' a pn p cn pk q ck A K xs v:=by
 refine⟨h.fb.to (hb.mono h.fb.sz),h.row.1,?_⟩;rcases h.row.2 with h1|⟨g,cap,cur,h1,h2,h3,h4,h5,h6⟩
 ·exact .inl h1
 ·refine .inr ⟨g,cap,cur,h1,h2,?_,h4,h5,h6⟩;rw[hb.block g (h.row.lt g (by rw[h1];rfl)).2];exact h3
theorem Fz.drewN{xs:List ByteArray}(h:Fz w W a pn p cn pk q ck A K xs v)(n:Nat):Fz w (W.drewN n) a pn p cn pk q ck A K xs v:=h.call (bdn (Below.refl _ _) n)
theorem Fz.add{w1:World}{xs ys:List ByteArray}(h:Fz w W a pn p cn pk q ck A K xs v)(k:Nat)(hk:k=ys.length)
  (ho:w1.ownsRow (w.heap.size+2) 9 1 v' (xs.length+k) (xs.map Value.string++ys.map Value.string)) (hg:W.grownBy w1 v.ownBlock):Fz w w1 a pn p cn pk q ck A K (xs++ys) v':=by
 subst hk;have hs:=h.fb.sz;refine⟨h.fb.to ⟨hg.os,hg.tape,hg.output,hg.size,λi hi=>?_⟩,?_⟩
 ·exact hg.block i (by omega) (λe2=>by have:=(h.row.lt i e2.symm).1;omega)
 ·rw[List.length_append,List.map_append];exact ho
def cov(F:Nat->Gv)(x:Int)(i:Nat):Prop:=(F i).a.f<=x/\x<(F i).a.t
def Hit(F:Nat->Gv)(x:Int)(K:Nat->Int)(q j:Nat):Prop:=j<q/\cov F x (K j).toNat/\∀m,m<j->¬cov F x (K m).toNat
def NoHit(F:Nat->Gv)(x:Int)(K:Nat->Int)(q:Nat):Prop:=∀m,m<q->¬cov F x (K m).toNat
inductive Pt (F:Nat->Gv) (x:Int):(Nat->Int)->Nat->List Nat->Prop
 |stop (K:Nat->Int) (q:Nat):NoHit F x K q->Pt F x K q []
 |step (K:Nat->Int) (q j:Nat) (xs:List Nat):Hit F x K q j->Pt F x (F (K j).toNat).K (F (K j).toNat).q xs->Pt F x K q ((K j).toNat::xs)
theorem Hit.uniq{j':Nat}(h:Hit F x K q j)(h':Hit F x K q j'):j=j':=by
 rcases Nat.lt_trichotomy j j' with g|g|g
 ·exact absurd h.2.1 (h'.2.2 j g)
 ·exact g
 ·exact absurd h'.2.1 (h.2.2 j' g)
theorem Pt.uniq{xs ys:List Nat}(h:Pt F x K q xs)(h':Pt F x K q ys):xs=ys:=by
 induction h generalizing ys with
 |stop K q a=>cases h' with
  |stop _ _ b=>rfl
  |step _ _ j zs b c=>exact absurd b.2.1 (a j b.1)
 |step K q j xs a _ ih=>cases h' with
  |stop _ _ b=>exact absurd a.2.1 (b j a.1)
  |step _ _ j' zs b c=>
   obtain rfl:=a.uniq b;rw[ih c]
theorem Pt.hit{xs:List Nat}(h:Pt F x K q xs)(g:Hit F x K q j):∃ys,xs=(K j).toNat::ys/\Pt F x (F (K j).toNat).K (F (K j).toNat).q ys:=by
 cases h with
 |stop _ _ b=>exact absurd g.2.1 (b j g.1)
 |step _ _ j' zs b c=>
  obtain rfl:=g.uniq b;exact⟨zs,rfl,c⟩
theorem Pt.none{xs:List Nat}(h:Pt F x K q xs)(g:NoHit F x K q):xs=[]:=by
 cases h with
 |stop _ _ b=>rfl
 |step _ _ j' zs b c=>exact absurd b.2.1 (g j' b.1)
def Pf(F:Nat->Gv)(n:Nat)(x:Int)(P:List Nat):Prop:=(∃c f,Fl nmp flp F n c f/\c≠0/\P=[])\/(∃f,Fl nmp flp F n 0 f/\Pt F x (λ_=>(n:Int)-1) 1 P)
theorem Pf.uniq{Q:List Nat}(h:Pf F n x P)(h':Pf F n x Q):P=Q:=by
 rcases h with⟨c,f,a,b,rfl⟩|⟨f,a,b⟩
 ·rcases h' with⟨_,_,_,_,rfl⟩|⟨f',a',b'⟩
  ·rfl
  ·exact absurd (Fl.uniq a a').1 b
 ·rcases h' with⟨c',f',a',b',rfl⟩|⟨f',a',b'⟩
  ·exact absurd (Fl.uniq a' a).1 b'
  ·exact b.uniq b'
theorem fl_sound{c f:Int}(h:Fl nmp flp F n c f)(h0:c=0):f=0/\0<n/\n<=3000/\Kn F n:=by
 cases h with
 |sound a1 a2 a3 a4=>exact⟨rfl,a1,a2,mis_kn a4⟩
 |_=>exact absurd h0 (by decide)
def pv(P:List Nat):List Value:=P.map (λi:Nat=>(.int .i64 i:Value))
def pa'(P:List Nat)(i:Nat):Int:=((P[i]?.getD 0:Nat):Int)
def Got(w W:World)(P:List Nat)(v:Value):Prop:=∃g,OwnR W v g P.length (λi=>.int .i64 (pa' P i))/\(0<P.length->w.heap.size<=g/\g<W.heap.size)
theorem Got.kz(h:Got w W P v)(k:Kz W W'):Got w W' P v:=by
 obtain⟨g,h1,h2⟩:=h;exact⟨g,h1.block (λhp=>k.block g (h2 hp).2),λhp=>⟨(h2 hp).1,Nat.lt_of_lt_of_le (h2 hp).2 k.size⟩⟩
structure Pg (w:World) (v0:Value) (pre:List Nat) (v:Value) (W:World):Prop where
 bl:Below w.heap.size w W
 ct:W.cell? ⟨w.heap.size,0,none⟩=some v0
 row:W.ownsRow (w.heap.size+1) 3 1 v pre.length (pv pre)
theorem Pg.shape{pre:List Nat}(h:Pg w v0 pre v W):∃(ad:Option Addr) (cap:Nat),v=.slice ad pre.length cap:=by
 rcases h.row.2 with⟨rfl,e⟩|⟨g,cap,cur,rfl,_⟩
 ·exact⟨none,0,by rw[show pre.length=0 from e]⟩
 ·exact⟨_,cap,rfl⟩
theorem Pg.step{pre:List Nat}{w2:World}{a b:Obj}{i:Nat}(h:Pg w v0 pre v W)(ho:w2.ownsRow (w.heap.size+1) 3 1 v' (pre.length+1) (pv pre++[.int .i64 (i:Int)]))(hg:((W.alloc a).alloc b).grownBy w2 v.ownBlock):
  Pg w v0 (pre++[i]) v' w2/\W.heap.size+2<=w2.heap.size/\∀k,k<w.heap.size+1\/(W.heap.size<=k/\k<W.heap.size+2)->w2.heap[k]? =((W.alloc a).alloc b).heap[k]?:=by
 have hne:∀k,k<w.heap.size+1\/(W.heap.size<=k/\k<W.heap.size+2)->some k≠v.ownBlock:=λk hk e=>by
  have:=h.row.lt k e.symm;omega
 have hsz:=h.bl.size;have hl:=lt_of_cell h.ct;have hs2:W.heap.size+2<=w2.heap.size:=by have:=hg.size;simp at this;omega
 have hk:∀k,k<w.heap.size+1\/(W.heap.size<=k/\k<W.heap.size+2)->w2.heap[k]? =((W.alloc a).alloc b).heap[k]?:=λk hk=>hg.block k (by simp;omega) (hne k hk);have h2:∀k,k<w.heap.size+1->w2.heap[k]? =W.heap[k]?:=λk h1=>(hk k (.inl h1)).trans (by rw[Below.heap_alloc _ _ _ (by simp;omega),Below.heap_alloc _ _ _ (by omega)]);refine⟨⟨⟨hg.os.trans h.bl.os,hg.tape.trans h.bl.tape,hg.output.trans h.bl.output,by omega,λk h1=>(h2 k (by omega)).trans (h.bl.block k h1)⟩,(World.cell?_of_block (h2 w.heap.size (by omega))).trans h.ct,?_⟩,hs2,hk⟩;have e:pv (pre++[i])=pv pre++[.int .i64 i]:=by simp[pv]
 rw[e,List.length_append];exact ho
structure Bxs (W:World) (t a:Nat) (c:Addr) (n cf:Nat) (x:Int) (F:Nat->Gv):Prop where
 ct:W.cell? ⟨t,0,none⟩=some (.slice (some c) n cf)
 ca:W.cell? ⟨a,0,none⟩=some (.int .i64 x)
 fr:∀i,i<n->FormC W (c.add (i*9)) (F i)
theorem Bxs.drew{t a cf:Nat}{c:Addr}(h:Bxs W t a c n cf x F)(d:Nat):Bxs (W.drewN d) t a c n cf x F:=
 ⟨h.ct,h.ca,λi hi=>(h.fr i hi).below (bdn (Below.refl _ _) d)⟩
theorem im_sound(w:World)(hg:Gd w)(hf:RowF w v n F)(hn:n<=1048576)(hp:∀i,i<n->(F i).p<=1048576)(hq:∀i,i<n->(F i).q<=1048576)(hm:∀i,i<n->-9223372036854775808<=(F i).a.m/\(F i).a.m<=9223372036854775807):
  Calls Tryz.prog 14 #[.agg #[v]] w λe w'=>(∃c f,e=.returned (.bool (dc (c=0)))/\Fl nmp flp F n c f)/\Kz w w':=by
 have hs:=λo:Obj=>im_sheet (w.alloc o) ((Kz.of_below (bel1 w o)).gd hg) (hf.kz (.of_below (bel1 _ _))) hn hp hq hm;obtain⟨pf,cf,rfl,_⟩:=hf;clear hg hn hp hq hm;go_enter Tryz.func14,Tryz.ntmps14;go_wp2_with fail;refine(hs _).mono ?_;rintro e w1 ⟨c,f,rfl,hfl,k1⟩;have HZ:Hid (Kz w w1/\Fl nmp flp F n c f):=(⟨(Kz.of_below (bel1 _ _)).trans k1,hfl⟩:_/\_)
 by_cases h0:c=0
 ·obtain⟨rfl,_⟩:=fl_sound hfl h0;subst h0;clear hs hfl k1;go_wp2_with fail;go_ret;exact⟨⟨0,0,by rw[dc_t rfl];rfl,HZ.2⟩,HZ.1⟩
 ·have h0':=bne h0;clear hs hfl k1;go_wp2_with fail;go_ret;exact⟨⟨c,f,by rw[dc_f h0];simp,HZ.2⟩,HZ.1⟩
