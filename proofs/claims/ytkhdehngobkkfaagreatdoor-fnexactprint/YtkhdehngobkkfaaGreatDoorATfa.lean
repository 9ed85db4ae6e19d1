import Derived.Test.YtkhdehngobkkfaaGreatDoorAQua
import Derived.Lib.ItoaWalk
set_option maxHeartbeats 1000000
namespace Go.Proofs.YtkhdehngobkkfaaGreatDoor.Fm
open Go.ChangeShapes Go.WideShapes Go.ChangeAt Go.RowKit
set_option linter.unusedVariables false
def dgs:List UInt8:=[48,49,50,51,52,53,54,55,56,57,97,98,99,100,101,102,103,104,105,106,107,108,109,110,111,112,113,114,115,116,117,118,119,120,121,122]
def dg(d:Nat):UInt8:=dgs.getD d 0
def wr (b n:Nat):List UInt8:=if _h:n=0\/b<2 then []else wr b (n / b)++[dg (n%b)]
termination_by n
decreasing_by exact Nat.div_lt_self (by omega) (by omega)
theorem wr_zero(b:Nat):wr b 0=[]:=by unfold wr;simp
theorem wr_pos(b n:Nat)(hb:2<=b)(hn:n≠0):wr b n=wr b (n / b)++[dg (n%b)]:=by
 rw[wr.eq_1];rw[dif_neg (by omega)]
theorem wr_small(b n:Nat)(hb:2<=b)(hn:n≠0)(h:n<b):wr b n=[dg n]:=by
 rw[wr_pos b n hb hn,Nat.div_eq_of_lt h,wr_zero,Nat.mod_eq_of_lt h];rfl
theorem wr_len(b:Nat)(hb:2<=b):∀(k n:Nat),n<2 ^ k->(wr b n).length<=k:=by
 intro k
 induction k with
 |zero=>intro n h;simp at h;subst h;rw[wr_zero];simp
 |succ k ih=>
  intro n h;by_cases h0:n=0
  ·subst h0;rw[wr_zero];simp
  ·rw[wr_pos b n hb h0];have h1:n / b<=n / 2:=Nat.div_le_div_left hb (by omega);have:=ih (n / b) (by rw[Nat.pow_succ]at h;omega)
   simp;omega
def wrt(b n:Nat):List UInt8:=if n=0 then [48]else wr b n
def wri(b:Nat)(n:Int):List UInt8:=if n<0 then 45::wrt b (-n).toNat else wrt b n.toNat
theorem wrt_len(b n:Nat)(hb:2<=b)(h:n<2 ^ 64):(wrt b n).length<=64:=by
 unfold wrt;split
 ·simp
 ·exact wr_len b hb 64 n h
theorem Grown.trans{a b c:World}(h:Grown a b)(g:Grown b c):Grown a c:=
 ⟨World.keptBut_trans h.1 g.1,λx=>(g.2.1 x).trans (h.2.1 x),Nat.le_trans h.2.2 g.2.2⟩
structure Row (w wr:World) (i:Nat) (S:List UInt8):Prop where
 grown:Grown w wr
 cell:∀j,j<65->∃z:Int,wr.cell? ⟨w.heap.size,j,none⟩=some (.int .u8 z)
 free:∀j,j<65->wr.frozen? ⟨w.heap.size,j,none⟩=false
 row:∀j (hj:j<S.length),wr.cell? ⟨w.heap.size,i+j,none⟩=some (.int .u8 (S[j].toNat:Int))
theorem Row.store{w wr:World}{k:Nat}{S:List UInt8}(h:Row w wr (k+1) S)(hk:k<65)(c:UInt8):Row w (wr.setCell ⟨w.heap.size,k,none⟩ (.int .u8 c.toNat)) k (c::S):=by
 obtain⟨z,hz⟩:=h.cell k hk;refine⟨Grown.setCell h.grown (Nat.le_refl _) _,λj hj=>?_,λj hj=>?_,λj hj=>?_⟩
 ·by_cases e:j=k
  ·subst e;exact⟨_,World.cell?_setCell_same _ _ _ hz⟩
  ·rw[World.cell?_setCell_other _ _ _ _ (by simp<;>omega)];exact h.cell j hj
 ·rw[World.frozen?_setCell];exact h.free j hj
 ·cases j with
  |zero=>exact World.cell?_setCell_same _ _ _ hz
  |succ j=>
   rw[World.cell?_setCell_other _ _ _ _ (by simp<;>omega)];have:=h.row j (by simpa using hj);rw[show k+(j+1)=k+1+j by omega]
   simpa using this
theorem idx (r:Nat) (hr:r<36) (w:World):(Instr.index 9 (.string ⟨#[48,49,50,51,52,53,54,55,56,57,97,98,99,100,101,102,103,104,105,106,107,108,109,110,111,112,113,114,115,116,117,118,119,120,121,122]⟩) (.int .u64 r)).run Tryz.prog w=.ok (.int .u8 ((dg r).toNat:Int)) w:=by
 have hs:((⟨#[48,49,50,51,52,53,54,55,56,57,97,98,99,100,101,102,103,104,105,106,107,108,109,110,111,112,113,114,115,116,117,118,119,120,121,122]⟩:ByteArray)).size=36:=by decide
 rw[run_index_string w 9 ⟨#[48,49,50,51,52,53,54,55,56,57,97,98,99,100,101,102,103,104,105,106,107,108,109,110,111,112,113,114,115,116,117,118,119,120,121,122]⟩ .u64 _ Tryz.underlying9,dif_pos ⟨by omega,by rw[hs];omega⟩];have e:((r:Int)).toNat=r:=by omega
 simp only[e];rw[Lib.getD_at _ r (by rw[hs];exact hr)];rfl
theorem and_pow(u:Int)(b t r:Nat)(hbt:2 ^ t=b)(hb:2<=b)(hb2:b<=36)(hu:0<=u)(hu2:u<=18446744073709551615)(hr:u.toNat%b=r):bits .and .u64 u ((b:Int)-1)=(r:Int):=by
 obtain⟨U,rfl⟩:=Int.eq_ofNat_of_zero_le hu;rw[Int.toNat_natCast]at hr;have e:((b:Int)-1)=((b-1:Nat):Int):=by omega
 rw[e,Go.u64_and_nat U (b-1) (by omega) (by omega),<-hbt,Nat.and_two_pow_sub_one_eq_mod,hbt,hr]
