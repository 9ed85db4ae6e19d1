import Derived.Test.YtkhdehngobkkfaaGreatDoorMZsq
import Derived.Handy
import Derived.Lib.Strings
import Derived.Lib.UnsafeStr
import Derived.BigQuiet
import Derived.Deep.AppendLies
import Derived.Deep.MidRow
set_option maxRecDepth 100000
set_option maxHeartbeats 1000000
namespace Go.Proofs.YtkhdehngobkkfaaGreatDoor
open Go.ChangeShapes Go.WideShapes Go.ChangeAt Go.RowKit
set_option linter.unusedVariables false
variable {w a b c w':World}{l:Int}{v:Value}{B n k:Nat}{T:ByteArray}{st:Bool}{L:List UInt8}{x:UInt8}{p:UInt8->Bool}{ws:List (List UInt8)}
theorem byte_at(s:ByteArray)(i:Nat)(hi:i<s.size):s[i]=s.data.toList.getD i 0:=by
 have h':i<s.data.toList.length:=by simpa using hi
 rw[List.getD,List.getElem?_eq_getElem h']
 simp
 rfl
def hxs:List UInt8:=[48,49,50,51,52,53,54,55,56,57,97,98,99,100,101,102]
def hx(d:Nat):UInt8:=hxs.getD d 0
def qel(b:UInt8):List UInt8:=
 if b.toNat=10 then [92,110]else if b.toNat=9 then [92,116]else if b.toNat=34 then [92,34]else if b.toNat=92 then [92,92]
 else if b.toNat<32\/126<b.toNat then [92,120,hx (b.toNat / 16),hx (b.toNat%16)]else [b]
theorem qel_len (b : UInt8) : (qel b).length ≤ 4 := by unfold qel; repeat' split
                                                       all_goals simp
def quo(L:List UInt8)(k:Nat):List UInt8:=34::(L.take k).flatMap qel
theorem quo_zero(L:List UInt8):quo L 0=[34]:=by simp[quo]
theorem quo_succ(L:List UInt8)(k:Nat)(x:UInt8)(h:L[k]? =some x):quo L (k+1)=quo L k++qel x:=by
 have:L.take (k+1)=L.take k++[x]:=by rw[List.take_add_one,h];rfl
 simp[quo,this]
theorem quo_len (L:List UInt8):∀k,(quo L k).length<=1+4*k
 |0=>by simp[quo]
 |k+1=>by
  have ih:=quo_len L k;cases h:L[k]? with
  |none=>
   have:L.take (k+1)=L.take k:=by rw[List.take_add_one,h];simp
   have e:quo L (k+1)=quo L k:=by simp[quo,this]
   rw[e];omega
  |some x=>rw[quo_succ L k x h,List.length_append];have:=qel_len x;omega
theorem bc_append(a b:List UInt8):Lib.byteCells (a++b)=Lib.byteCells a++Lib.byteCells b:=by simp[Lib.byteCells]
theorem bc_len(a:List UInt8):(Lib.byteCells a).length=a.length:=by simp[Lib.byteCells]
theorem ix(T:ByteArray)(L:List UInt8)(hT:T.data.toList=L)(k:Nat)(c:UInt8)(hk:L[k]? =some c)(w:World):
  (Instr.index 9 (.string T) (.int .i64 k)).run Tryz.prog w=.ok (.int .u8 c.toNat) w:=by
 subst hT
 have hlt:k<T.size:=by
  have:=(List.getElem?_eq_some_iff.1 hk).1
  simpa using this
 rw[run_index_string w 9 T .i64 _ Tryz.underlying9,dif_pos ⟨by omega,by omega⟩];have e:((k:Int)).toNat=k:=by omega
 simp only[e];rw[byte_at _ k hlt];have:T.data.toList.getD k 0=c:=by rw[List.getD,hk];rfl
 rw[this]
theorem ixd:∀i:Fin 16,(⟨#[48,49,50,51,52,53,54,55,56,57,97,98,99,100,101,102]⟩:ByteArray).data.toList[i.val]? =some (hx i.val):=by decide+kernel
theorem ixh(r:Nat)(hr:r<16)(w:World):
  (Instr.index 9 (.string ⟨#[48,49,50,51,52,53,54,55,56,57,97,98,99,100,101,102]⟩) (.int .u8 r)).run Tryz.prog w=.ok (.int .u8 ((hx r).toNat:Int)) w:=by
 have hk:=ixd ⟨r,hr⟩;have hsz:(⟨#[48,49,50,51,52,53,54,55,56,57,97,98,99,100,101,102]⟩:ByteArray).size=16:=by decide
 rw[run_index_string w 9 _ .u8 _ Tryz.underlying9,dif_pos ⟨by omega,by rw[hsz];omega⟩];have e:((r:Int)).toNat=r:=by omega
 simp only[e];rw[byte_at _ r (by rw[hsz];omega)];have:(⟨#[48,49,50,51,52,53,54,55,56,57,97,98,99,100,101,102]⟩:ByteArray).data.toList.getD r 0=hx r:=by rw[List.getD,hk];rfl
 rw[this]
theorem info5:(Tryz.prog.info? 5).map (λi=>(i.zero,i.size,i.bytes))=some (some (.int .u8 0),1,1):=by kernel_rfl
def QR(w:World)(l:List UInt8)(v:Value)(wr:World):Prop:=wr.ownsRow w.heap.size 5 1 v l.length (Lib.byteCells l)/\Below w.heap.size w wr
theorem qr_step{wr w1:World}{l m:List UInt8}{v':Value}{o:Obj}(h:QR w l v wr)(ho:w1.ownsRow w.heap.size 5 1 v' (l.length+m.length) (Lib.byteCells l++Lib.byteCells m))(hg:(wr.alloc o).grownBy w1 v.ownBlock):QR w (l++m) v' w1:=by
 obtain⟨h1,h2⟩:=h;refine⟨by rw[List.length_append,bc_append];exact ho,?_⟩;exact(h2.alloc h2.size o).grown hg (by have:=h2.size;simp;omega) (λk hk=>(h1.lt k hk).1)
theorem qr_cells(w:World)(c:Array Value)(t:TypeId)(l:List Value)(hl:c.toList=l):∀j u,l[j]? =some u->(w.alloc (.cells c t)).cell? ((⟨w.heap.size,0,none⟩:Addr).add j)=some u:=by
 intro j u hj;subst hl;have e:(⟨w.heap.size,0,none⟩:Addr).add j=⟨w.heap.size,j,none⟩:=by simp[Addr.add];intro h;exact h.symm
 rw[e,World.cell?_alloc_mark]
 simpa using hj
theorem bc_one(l:List UInt8):∀u ∈ Lib.byteCells l,u.oneCell'=true:=by
 intro u hu;simp[Lib.byteCells]at hu;obtain⟨a,_,rfl⟩:=hu;rfl
theorem conv_row{wr:World}{l:List UInt8}(hl:l≠ [])(h:QR w l v wr):(convert 38 9 v).run Tryz.prog wr=.ok (.string ⟨l.toArray⟩) wr:=by
 obtain⟨h1,h2⟩:=h;obtain⟨g,cap,rfl,_,_⟩:=World.ownsRow.form h1 (by cases l with|nil=>exact(hl rfl).elim|cons a b=>simp);refine run_convert_bytes_back wr 38 9 5 _ cap l Tryz.underlying38 Tryz.underlying5 Tryz.underlying9 (λj hj=>?_);have:=h1.cells (g:=g) rfl j (.int .u8 (l[j].toNat:Int)) (by simp[Lib.byteCells,hj]);exact this
structure Kb (B:Nat) (a w:World):Prop where
 os:w.os=a.os
 output:w.output=a.output
 size:a.heap.size<=w.heap.size
 block:∀i,i<a.heap.size->i≠B->w.heap[i]? =a.heap[i]?
theorem Kb.refl(B:Nat)(a:World):Kb B a a:=⟨rfl,rfl,Nat.le_refl _,λ_ _ _=>rfl⟩
theorem Kb.trans(h:Kb B a b)(k:Kb B b c):Kb B a c:=
 ⟨k.os.trans h.os,k.output.trans h.output,Nat.le_trans h.size k.size,λi hi hn=>(k.block i (Nat.lt_of_lt_of_le hi h.size) hn).trans (h.block i hi hn)⟩
theorem Kb.of_below(h:Below n a w)(hn:a.heap.size<=n):Kb B a w:=⟨h.os,h.output,h.size,λi hi _=>h.block i (Nat.lt_of_lt_of_le hi hn)⟩
theorem Kb.drewN(h:Kb B a w)(n:Nat):Kb B a (w.drewN n):=⟨h.os,h.output,h.size,h.block⟩
theorem Kb.setCell(h:Kb B a w)(j:Nat)(v:Value):Kb B a (w.setCell ⟨B,j,none⟩ v):=by
 refine⟨h.os,h.output,by simpa using h.size,λi hi hn=>?_⟩;rw[Below.heap_setCell w _ _ _ hn];exact h.block i hi hn
theorem Kb.setNew(h:Kb B a w)(p:Addr)(hp:a.heap.size<=p.block)(v:Value):Kb B a (w.setCell p v):=by
 refine⟨h.os,h.output,by simpa using h.size,λi hi hn=>?_⟩;rw[Below.heap_setCell w _ _ _ (by omega)];exact h.block i hi hn
theorem Kb.alloc(h:Kb B a w)(o:Obj):Kb B a (w.alloc o):=by
 refine⟨h.os,h.output,by have:=h.size;simp;omega,λi hi hn=>?_⟩;rw[Below.heap_alloc w _ _ (Nat.lt_of_lt_of_le hi h.size)];exact h.block i hi hn
theorem Kb.of_kept(h:a.keptBut w (λ_=>False)):Kb B a w:=by
 obtain⟨h1,h2,h3⟩:=h
 have key:∀i,i<a.heap.size->w.heap[i]? =a.heap[i]?:=by
  intro i hi;have h:=h3 i hi;generalize a.heap[i]? =o at h⊢;generalize w.heap[i]? =o' at h⊢;split at h
  ·obtain⟨rfl,rfl,g1,g2⟩:=h
   congr 2
   apply Array.ext
   ·exact g1
   ·intro j l1 l2;have:=g2 j (λf=>f);rw[Array.getElem?_eq_getElem l1,Array.getElem?_eq_getElem l2]at this;exact Option.some.inj this
  ·rcases h with h|⟨rfl,rfl⟩
   ·exact h.elim
   ·rfl
  ·exact h
 refine⟨h1,h2,?_,λi hi _=>key i hi⟩;rcases Nat.lt_or_ge w.heap.size a.heap.size with h|h
 ·have:=key w.heap.size h;rw[Array.getElem?_eq_none (Nat.le_refl _),Array.getElem?_eq_getElem h]at this;cases this
 ·exact h
theorem Kb.kept(h:Kb B a w)(hB:a.heap.size<=B):a.keptBut w (λ_=>False):=by
 refine⟨h.os,h.output,λi hi=>?_⟩;have:=h.block i hi (by omega);rw[this];generalize a.heap[i]? =o;cases o with
 |none=>rfl
 |some o=>cases o<;>first|exact⟨rfl,rfl,rfl,λ_ _=>rfl⟩|exact .inr ⟨rfl,rfl⟩|rfl
def Sb(B:Nat)(T:ByteArray)(k l:Int)(st:Bool)(w:World):Prop:=w.heap[B]? =some (.cells #[.string T,.int .i64 k,.int .i64 l,.bool st] 182 (0,0))
section
variable {B:Nat} {T:ByteArray} {k l:Int} {st:Bool} {w:World}
theorem Sb.c0(h:Sb B T k l st w):w.cell? ⟨B,0,none⟩=some (.string T):=by unfold Sb at h;simp[World.cell?,h]
theorem Sb.c1(h:Sb B T k l st w):w.cell? ⟨B,1,none⟩=some (.int .i64 k):=by unfold Sb at h;simp[World.cell?,h]
theorem Sb.c2(h:Sb B T k l st w):w.cell? ⟨B,2,none⟩=some (.int .i64 l):=by unfold Sb at h;simp[World.cell?,h]
theorem Sb.c3(h:Sb B T k l st w):w.cell? ⟨B,3,none⟩=some (.bool st):=by unfold Sb at h;simp[World.cell?,h]
theorem Sb.fz(h:Sb B T k l st w)(j:Nat):w.frozen? ⟨B,j,none⟩=false:=by unfold Sb at h;simp[World.frozen?,h]
theorem Sb.lt(h:Sb B T k l st w):B<w.heap.size:=(Array.getElem?_eq_some_iff.1 h).1
theorem Sb.drewN(h:Sb B T k l st w)(n:Nat):Sb B T k l st (w.drewN n):=h
theorem Sb.set1(h:Sb B T k l st w)(k':Int):Sb B T k' l st (w.setCell ⟨B,1,none⟩ (.int .i64 k')):=by
 unfold Sb at*;simp[World.setCell,Array.getElem?_modify,h]
theorem Sb.set2(h:Sb B T k l st w)(l':Int):Sb B T k l' st (w.setCell ⟨B,2,none⟩ (.int .i64 l')):=by
 unfold Sb at*;simp[World.setCell,Array.getElem?_modify,h]
theorem Sb.set3(h:Sb B T k l st w)(s':Bool):Sb B T k l s' (w.setCell ⟨B,3,none⟩ (.bool s')):=by
 unfold Sb at*;simp[World.setCell,Array.getElem?_modify,h]
theorem Sb.below(h:Sb B T k l st w)(hb:Below n w w')(hn:w.heap.size<=n):Sb B T k l st w':=(hb.block B (Nat.lt_of_lt_of_le h.lt hn)).trans h
end
theorem ended_run(B:Nat)(T:ByteArray)(k l:Int)(st z:Bool)(hz:(k==(T.size:Int))=z)(w:World)(h:Sb B T k l st w):
  Calls Tryz.prog 144 #[.pointer (some ⟨B,0,none⟩)] w λe w'=>e=.returned (.bool z)/\∃m,w'=w.drewN m:=by
 have b0:=h.c0;have b1:=h.c1;clear h;go_enter Tryz.func144,Tryz.ntmps144;go_wp2
 go_quiet (fail)
 go_wp2;go_ret;exact⟨rfl,nq,rfl⟩
theorem ended_in(B:Nat)(T:ByteArray)(k l:Int)(st z:Bool)(hz:(k==(T.size:Int))=z)(w:World)(h:Sb B T k l st w)(n:Nat):
  Calls Tryz.prog 144 #[.pointer (some ⟨B,0,none⟩)] (w.drewN n) λe w'=>e=.returned (.bool z)/\∃m,w'=w.drewN m:=
 Calls.quiet_of (ended_run B T k l st z hz (w.drewN n) h)
theorem take_end{k:Int}(c:Int)(hk:k=(T.size:Int))(w:World)(h:Sb B T k l st w):
  Calls Tryz.prog 150 #[.pointer (some ⟨B,0,none⟩),.int .u8 c] w λe w'=>e=.returned (.bool false)/\∃m,w'=w.drewN m:=by
 have H21:=ended_in B T k l st true (by simpa using hk) w h;have b0:=h.c0;have b1:=h.c1;clear h hk;go_enter Tryz.func150,Tryz.ntmps150;go_wp2_with fail
 go_quiet ((go_at_call 144;exact H21 _))
 go_wp2_with fail;go_ret;exact⟨rfl,_,rfl⟩
theorem take_no(c:Int)(x:UInt8)(hx:T.data.toList[k]? =some x)(hc:((x.toNat:Int)==c)=false)(w:World)(h:Sb B T k l st w):
  Calls Tryz.prog 150 #[.pointer (some ⟨B,0,none⟩),.int .u8 c] w λe w'=>e=.returned (.bool false)/\∃m,w'=w.drewN m:=by
 have hlt:k<T.size:=by have:=(List.getElem?_eq_some_iff.1 hx).1;simpa using this
 have H21:=ended_in B T k l st false (by simp;omega) w h;have b0:=h.c0;have b1:=h.c1;have hix:=ix T _ rfl k x hx;clear h hlt hx;generalize (x.toNat:Int)=xi at*;go_enter Tryz.func150,Tryz.ntmps150;go_wp2_with fail
 go_quiet ((go_at_call 144;exact H21 _))
 go_wp2_with fail;go_ret;exact⟨rfl,_,rfl⟩
theorem take_yes(x:UInt8)(hlen:T.size<=65536)(hx:T.data.toList[k]? =some x)(w:World)(h:Sb B T k l st w):
  Calls Tryz.prog 150 #[.pointer (some ⟨B,0,none⟩),.int .u8 x.toNat] w λe w'=>e=.returned (.bool true)/\Kb B w w'/\Sb B T ((k+1:Nat):Int) l st w':=by
 have hlt:k<T.size:=by have:=(List.getElem?_eq_some_iff.1 hx).1;simpa using this
 have H21:=ended_in B T k l st false (by simp;omega) w h;have HS:Hid (Sb B T k l st w):=h;have b0:=h.c0;have b1:=h.c1;have f1:=h.fz 1;have hix:=ix T _ rfl k x hx;have hk2:(k:Int)<65536:=by omega
 clear h hlt hx;generalize (x.toNat:Int)=xi at*;go_enter Tryz.func150,Tryz.ntmps150;go_wp2_with fail
 go_quiet ((go_at_call 144;exact H21 _))
 go_wp2_with fail;go_ret;refine⟨rfl,((Kb.refl B w).drewN nq).setCell 1 _,?_⟩;exact((uh HS).drewN nq).set1 _
def isL(b:UInt8):Bool:=(97<=b.toNat && b.toNat<=122)||(65<=b.toNat && b.toNat<=90)||b.toNat==95
def isD(b:UInt8):Bool:=48<=b.toNat && b.toNat<=57
theorem impl_isD(c:UInt8)(w:World):Calls Tryz.prog 161 #[.int .u8 c.toNat] w λe w'=>e=.returned (.bool (isD c))/\w'=w:=by
 have hc:=c.toNat_lt;by_cases h1:c.toNat<48
 ·have e:isD c=false:=by unfold isD;simp;omega
  rw[e];have i1:¬(48:Int)<=(c.toNat:Int):=by omega
  clear e h1 hc;generalize (c.toNat:Int)=n at*;go_enter Tryz.func161,Tryz.ntmps161;go_wp2;go_ret;exact⟨rfl,rfl⟩
 ·by_cases h2:c.toNat<=57
  ·have e:isD c=true:=by unfold isD;simp;omega
   rw[e];have i1:(48:Int)<=(c.toNat:Int):=by omega
   have i2:(c.toNat:Int)<=57:=by omega
   clear e h1 h2 hc;generalize (c.toNat:Int)=n at*;go_enter Tryz.func161,Tryz.ntmps161;go_wp2;go_ret;exact⟨rfl,rfl⟩
  ·have e:isD c=false:=by unfold isD;simp;omega
   rw[e];have i1:(48:Int)<=(c.toNat:Int):=by omega
   have i2:¬(c.toNat:Int)<=57:=by omega
   clear e h1 h2 hc;generalize (c.toNat:Int)=n at*;go_enter Tryz.func161,Tryz.ntmps161;go_wp2;go_ret;exact⟨rfl,rfl⟩
theorem impl_isL(c:UInt8)(w:World):Calls Tryz.prog 159 #[.int .u8 c.toNat] w λe w'=>e=.returned (.bool (isL c))/\w'=w:=by
 have hc:=c.toNat_lt;have hr:(c.toNat<65)\/(65<=c.toNat/\c.toNat<=90)\/(90<c.toNat/\c.toNat<95)\/(c.toNat=95)\/(c.toNat=96)\/(97<=c.toNat/\c.toNat<=122)\/(122<c.toNat):=by omega
 rcases hr with h|h|h|h|h|h|h
 ·have e:isL c=false:=by unfold isL;simp;omega
  rw[e];have i1:¬(97:Int)<=(c.toNat:Int):=by omega
  have i2:(c.toNat:Int)<=122:=by omega
  have i3:¬(65:Int)<=(c.toNat:Int):=by omega
  have i4:(c.toNat:Int)<=90:=by omega
  have i5:((c.toNat:Int)==95)=false:=by simp;omega
  clear e h hc;generalize (c.toNat:Int)=n at*;go_enter Tryz.func159,Tryz.ntmps159;go_wp2;go_ret;exact⟨rfl,rfl⟩
 ·have e:isL c=true:=by unfold isL;simp;omega
  rw[e];have i1:¬(97:Int)<=(c.toNat:Int):=by omega
  have i2:(c.toNat:Int)<=122:=by omega
  have i3:(65:Int)<=(c.toNat:Int):=by omega
  have i4:(c.toNat:Int)<=90:=by omega
  have i5:((c.toNat:Int)==95)=false:=by simp;omega
  clear e h hc;generalize (c.toNat:Int)=n at*;go_enter Tryz.func159,Tryz.ntmps159;go_wp2;go_ret;exact⟨rfl,rfl⟩
 ·have e:isL c=false:=by unfold isL;simp;omega
  rw[e];have i1:¬(97:Int)<=(c.toNat:Int):=by omega
  have i2:(c.toNat:Int)<=122:=by omega
  have i3:(65:Int)<=(c.toNat:Int):=by omega
  have i4:¬(c.toNat:Int)<=90:=by omega
  have i5:((c.toNat:Int)==95)=false:=by simp;omega
  clear e h hc;generalize (c.toNat:Int)=n at*;go_enter Tryz.func159,Tryz.ntmps159;go_wp2;go_ret;exact⟨rfl,rfl⟩
 ·have e:isL c=true:=by unfold isL;simp;omega
  rw[e];have i1:¬(97:Int)<=(c.toNat:Int):=by omega
  have i2:(c.toNat:Int)<=122:=by omega
  have i3:(65:Int)<=(c.toNat:Int):=by omega
  have i4:¬(c.toNat:Int)<=90:=by omega
  have i5:((c.toNat:Int)==95)=true:=by simp;omega
  clear e h hc;generalize (c.toNat:Int)=n at*;go_enter Tryz.func159,Tryz.ntmps159;go_wp2;go_ret;exact⟨rfl,rfl⟩
 ·have e:isL c=false:=by unfold isL;simp;omega
  rw[e];have i1:¬(97:Int)<=(c.toNat:Int):=by omega
  have i2:(c.toNat:Int)<=122:=by omega
  have i3:(65:Int)<=(c.toNat:Int):=by omega
  have i4:¬(c.toNat:Int)<=90:=by omega
  have i5:((c.toNat:Int)==95)=false:=by simp;omega
  clear e h hc;generalize (c.toNat:Int)=n at*;go_enter Tryz.func159,Tryz.ntmps159;go_wp2;go_ret;exact⟨rfl,rfl⟩
 ·have e:isL c=true:=by unfold isL;simp;omega
  rw[e];have i1:(97:Int)<=(c.toNat:Int):=by omega
  have i2:(c.toNat:Int)<=122:=by omega
  have i3:(65:Int)<=(c.toNat:Int):=by omega
  have i4:¬(c.toNat:Int)<=90:=by omega
  have i5:((c.toNat:Int)==95)=false:=by simp;omega
  clear e h hc;generalize (c.toNat:Int)=n at*;go_enter Tryz.func159,Tryz.ntmps159;go_wp2;go_ret;exact⟨rfl,rfl⟩
 ·have e:isL c=false:=by unfold isL;simp;omega
  rw[e];have i1:(97:Int)<=(c.toNat:Int):=by omega
  have i2:¬(c.toNat:Int)<=122:=by omega
  have i3:(65:Int)<=(c.toNat:Int):=by omega
  have i4:¬(c.toNat:Int)<=90:=by omega
  have i5:((c.toNat:Int)==95)=false:=by simp;omega
  clear e h hc;generalize (c.toNat:Int)=n at*;go_enter Tryz.func159,Tryz.ntmps159;go_wp2;go_ret;exact⟨rfl,rfl⟩
theorem spec_isL(c:UInt8)(w:World):Calls Tryz.prog 98 #[.int .u8 c.toNat] w λe w'=>e=.returned (.bool (isL c))/\w'=w:=by
 have hc:=c.toNat_lt;have hr:(c.toNat<65)\/(65<=c.toNat/\c.toNat<=90)\/(90<c.toNat/\c.toNat<95)\/(c.toNat=95)\/(c.toNat=96)\/(97<=c.toNat/\c.toNat<=122)\/(122<c.toNat):=by omega
 rcases hr with h|h|h|h|h|h|h
 ·have e:isL c=false:=by unfold isL;simp;omega
  rw[e];have i1:¬(97:Int)<=(c.toNat:Int):=by omega
  have i2:(c.toNat:Int)<=122:=by omega
  have i3:¬(65:Int)<=(c.toNat:Int):=by omega
  have i4:(c.toNat:Int)<=90:=by omega
  have i5:((c.toNat:Int)==95)=false:=by simp;omega
  clear e h hc;generalize (c.toNat:Int)=n at*;go_enter Tryz.func98,Tryz.ntmps98;go_wp2;go_ret;exact⟨rfl,rfl⟩
 ·have e:isL c=true:=by unfold isL;simp;omega
  rw[e];have i1:¬(97:Int)<=(c.toNat:Int):=by omega
  have i2:(c.toNat:Int)<=122:=by omega
  have i3:(65:Int)<=(c.toNat:Int):=by omega
  have i4:(c.toNat:Int)<=90:=by omega
  have i5:((c.toNat:Int)==95)=false:=by simp;omega
  clear e h hc;generalize (c.toNat:Int)=n at*;go_enter Tryz.func98,Tryz.ntmps98;go_wp2;go_ret;exact⟨rfl,rfl⟩
 ·have e:isL c=false:=by unfold isL;simp;omega
  rw[e];have i1:¬(97:Int)<=(c.toNat:Int):=by omega
  have i2:(c.toNat:Int)<=122:=by omega
  have i3:(65:Int)<=(c.toNat:Int):=by omega
  have i4:¬(c.toNat:Int)<=90:=by omega
  have i5:((c.toNat:Int)==95)=false:=by simp;omega
  clear e h hc;generalize (c.toNat:Int)=n at*;go_enter Tryz.func98,Tryz.ntmps98;go_wp2;go_ret;exact⟨rfl,rfl⟩
 ·have e:isL c=true:=by unfold isL;simp;omega
  rw[e];have i1:¬(97:Int)<=(c.toNat:Int):=by omega
  have i2:(c.toNat:Int)<=122:=by omega
  have i3:(65:Int)<=(c.toNat:Int):=by omega
  have i4:¬(c.toNat:Int)<=90:=by omega
  have i5:((c.toNat:Int)==95)=true:=by simp;omega
  clear e h hc;generalize (c.toNat:Int)=n at*;go_enter Tryz.func98,Tryz.ntmps98;go_wp2;go_ret;exact⟨rfl,rfl⟩
 ·have e:isL c=false:=by unfold isL;simp;omega
  rw[e];have i1:¬(97:Int)<=(c.toNat:Int):=by omega
  have i2:(c.toNat:Int)<=122:=by omega
  have i3:(65:Int)<=(c.toNat:Int):=by omega
  have i4:¬(c.toNat:Int)<=90:=by omega
  have i5:((c.toNat:Int)==95)=false:=by simp;omega
  clear e h hc;generalize (c.toNat:Int)=n at*;go_enter Tryz.func98,Tryz.ntmps98;go_wp2;go_ret;exact⟨rfl,rfl⟩
 ·have e:isL c=true:=by unfold isL;simp;omega
  rw[e];have i1:(97:Int)<=(c.toNat:Int):=by omega
  have i2:(c.toNat:Int)<=122:=by omega
  have i3:(65:Int)<=(c.toNat:Int):=by omega
  have i4:¬(c.toNat:Int)<=90:=by omega
  have i5:((c.toNat:Int)==95)=false:=by simp;omega
  clear e h hc;generalize (c.toNat:Int)=n at*;go_enter Tryz.func98,Tryz.ntmps98;go_wp2;go_ret;exact⟨rfl,rfl⟩
 ·have e:isL c=false:=by unfold isL;simp;omega
  rw[e];have i1:(97:Int)<=(c.toNat:Int):=by omega
  have i2:¬(c.toNat:Int)<=122:=by omega
  have i3:(65:Int)<=(c.toNat:Int):=by omega
  have i4:¬(c.toNat:Int)<=90:=by omega
  have i5:((c.toNat:Int)==95)=false:=by simp;omega
  clear e h hc;generalize (c.toNat:Int)=n at*;go_enter Tryz.func98,Tryz.ntmps98;go_wp2;go_ret;exact⟨rfl,rfl⟩
theorem spec_isD(c:UInt8)(w:World):Calls Tryz.prog 96 #[.int .u8 c.toNat] w λe w'=>e=.returned (.bool (isD c))/\w'=w:=by
 have hc:=c.toNat_lt;have hr:c.toNat<48\/(48<=c.toNat/\c.toNat<=57)\/57<c.toNat:=by omega
 rcases hr with h|h|h
 ·have e:isD c=false:=by unfold isD;simp;omega
  rw[e];have i1:¬(48:Int)<=(c.toNat:Int):=by omega
  have i2:(c.toNat:Int)<=57:=by omega
  clear e h hc;generalize (c.toNat:Int)=n at*;go_enter Tryz.func96,Tryz.ntmps96;go_wp2;go_ret;exact⟨rfl,rfl⟩
 ·have e:isD c=true:=by unfold isD;simp;omega
  rw[e];have i1:(48:Int)<=(c.toNat:Int):=by omega
  have i2:(c.toNat:Int)<=57:=by omega
  clear e h hc;generalize (c.toNat:Int)=n at*;go_enter Tryz.func96,Tryz.ntmps96;go_wp2;go_ret;exact⟨rfl,rfl⟩
 ·have e:isD c=false:=by unfold isD;simp;omega
  rw[e];have i1:(48:Int)<=(c.toNat:Int):=by omega
  have i2:¬(c.toNat:Int)<=57:=by omega
  clear e h hc;generalize (c.toNat:Int)=n at*;go_enter Tryz.func96,Tryz.ntmps96;go_wp2;go_ret;exact⟨rfl,rfl⟩
def pre(L:List UInt8)(k:Nat)(p:List UInt8):Bool:=(L.drop k).take p.length==p
theorem drop_slice(T:ByteArray)(k:Nat)(hk:k<=T.size)(W:World):(Instr.slice 9 (.string T) (some (.int .i64 k)) none none).run Tryz.prog W=.ok (.string (T.extract k T.size)) W:=by
 rw[run_slice_string_from_if W 9 T .i64 (k:Int) Tryz.underlying9,if_pos ⟨by omega,by omega⟩]
 simp
theorem has_pre(S p:ByteArray)(z:Bool)(hz:(S.data.toList.take p.data.toList.length==p.data.toList)=z)(w:World):
  Calls Tryz.prog 56 #[.string S,.string p] w λe w'=>e=.returned (.bool z)/\w'=w:=by
 have e1:p.data.toList.length=p.size:=by simp
 have e2:S.data.toList.length=S.size:=by simp
 by_cases h:p.size<=S.size
 ·have hi:(p.size:Int)<=(S.size:Int):=by omega
  have hcmp:((S.extract 0 p.size).toList==p.toList)=z:=by
   rw[Lib.extract_toList,Lib.toList_data];rw[e1]at hz;simpa using hz
  clear hz h e1 e2;go_enter Tryz.func56,Tryz.ntmps56;go_wp2;go_ret;exact⟨rfl,rfl⟩
 ·have hi:¬(p.size:Int)<=(S.size:Int):=by omega
  have hz2:z=false:=by
   rw[<-hz];apply Bool.eq_false_iff.2;intro g;have g2:=eq_of_beq g;have:=congrArg List.length g2;rw[List.length_take]at this;omega
  subst hz2;clear hz h e1 e2;go_enter Tryz.func56,Tryz.ntmps56;go_wp2;go_ret;exact⟨rfl,rfl⟩
theorem sees_run(p:ByteArray)(z:Bool)(hk:k<=T.size)(hz:pre T.data.toList k p.data.toList=z)(w:World)(h:Sb B T k l st w):
  Calls Tryz.prog 158 #[.pointer (some ⟨B,0,none⟩),.string p] w λe w'=>e=.returned (.bool z)/\∃m,w'=w.drewN m:=by
 have b0:=h.c0;have b1:=h.c1;have hsl:∀W:World,(Instr.slice 9 (.string T) (some (.int .i64 k)) none none).run Tryz.prog W=.ok (.string (T.extract k T.size)) W:=drop_slice T k hk;have H:=has_pre (T.extract k T.size) p z (by rw[Lib.extract_data];unfold pre at hz;rw[<-hz];congr 2;rw[List.take_of_length_le (l:=List.drop k T.data.toList)];simp);clear h hz hk;generalize T.extract k T.size=S at*;go_enter Tryz.func158,Tryz.ntmps158;go_wp2_with fail
 go_quiet ((go_at_call 56;exact Calls.quiet_of_same (H _)))
 go_wp2_with fail;go_ret;exact⟨rfl,_,rfl⟩
def lk(L:List UInt8)(k:Nat):UInt8:=L.getD k 0
theorem lk_some(h:L[k]? =some x):lk L k=x:=by unfold lk;rw[List.getD,h];rfl
theorem lk_none(h:L.length<=k):lk L k=0:=by unfold lk;rw[List.getD,List.getElem?_eq_none h];rfl
theorem spec_look(T:ByteArray)(L:List UInt8)(hT:T.data.toList=L)(k:Nat)(w:World):
  Calls Tryz.prog 122 #[.string T,.int .i64 k] w λe w'=>e=.returned (.int .u8 ((lk L k).toNat:Int))/\w'=w:=by
 have hs:T.size=L.length:=by rw[<-hT];simp
 by_cases h:k<L.length
 ·have hx:=List.getElem?_eq_getElem h;have hix:=ix T L hT k _ hx;rw[lk_some hx];generalize ((L[k]).toNat:Int)=xi at*;have hi:(k:Int)<(T.size:Int):=by omega
  clear hx h hs hT;go_enter Tryz.func122,Tryz.ntmps122;go_wp2;go_ret;exact⟨rfl,rfl⟩
 ·rw[lk_none (by omega)];have hi:¬(k:Int)<(T.size:Int):=by omega
  clear h hs hT;go_enter Tryz.func122,Tryz.ntmps122;go_wp2;go_ret;exact⟨rfl,rfl⟩
def skb:Bool->List UInt8->Nat
 |_,[]=>0
 |true,c::r=>if c.toNat=10 then 0 else 1+skb true r
 |false,c::r=>if c.toNat=32\/c.toNat=9\/c.toNat=13 then 1+skb false r else if c.toNat=45/\r.head?=some 45 then 1+skb true r else 0
theorem skb_t(c:UInt8)(r:List UInt8):skb true (c::r)=if c.toNat=10 then 0 else 1+skb true r:=by rw[skb]
theorem skb_f(c:UInt8)(r:List UInt8):skb false (c::r)=if c.toNat=32\/c.toNat=9\/c.toNat=13 then 1+skb false r else if c.toNat=45/\r.head?=some 45 then 1+skb true r else 0:=by rw[skb]
theorem skb_le:∀(b:Bool) (r:List UInt8),skb b r<=r.length
 |_,[]=>by simp[skb]
 |true,c::r=>by unfold skb;have:=skb_le true r;split<;>simp<;>omega
 |false,c::r=>by
  unfold skb;have:=skb_le true r;have:=skb_le false r;split
  ·simp;omega
  ·split<;>simp<;>omega
theorem skb_true_end:∀(r:List UInt8),skb false (r.drop (skb true r))=0
 | []=>by simp[skb]
 |c::r=>by
  rw[skb_t];by_cases h:c.toNat=10
  ·rw[if_pos h];simp[skb_f,h]
  ·rw[if_neg h,Nat.add_comm];simpa using skb_true_end r
def bl(L:List UInt8)(k:Nat):Nat:=k+skb false (L.drop k)
theorem bl_le(L:List UInt8)(k:Nat)(hk:k<=L.length):bl L k<=L.length:=by
 unfold bl;have:=skb_le false (L.drop k);rw[List.length_drop]at this;omega
theorem drop_cons(h:L[k]? =some x):L.drop k=x::L.drop (k+1):=by
 obtain⟨h1,h2⟩:=List.getElem?_eq_some_iff.1 h;rw[List.drop_eq_getElem_cons h1,h2]
theorem bl_end(h:L.length<=k):bl L k=k:=by unfold bl;rw[List.drop_eq_nil_of_le h];simp[skb]
theorem bl_blank(h:L[k]? =some x)(hx:x.toNat=32\/x.toNat=9\/x.toNat=13):bl L k=bl L (k+1):=by
 unfold bl;rw[drop_cons h,skb_f,if_pos hx];omega
def rem(L:List UInt8)(k:Nat):Nat:=k+skb true (L.drop k)
theorem bl_remark(h:L[k]? =some 45)(h2:L[k+1]? =some 45):bl L k=rem L k/\bl L (rem L k)=rem L k/\k<rem L k:=by
 have e:L.drop k=45::L.drop (k+1):=drop_cons h;have hh:(L.drop (k+1)).head?=some 45:=by rw[drop_cons h2];rfl
 have e1:skb false (L.drop k)=1+skb true (L.drop (k+1)):=by
  rw[e,skb_f,if_neg (by decide),if_pos ⟨by decide,hh⟩]
 have e2:skb true (L.drop k)=1+skb true (L.drop (k+1)):=by
  rw[e,skb_t,if_neg (by decide)]
 have e3:=skb_true_end (L.drop k);rw[List.drop_drop]at e3;refine⟨by unfold bl rem;omega,?_,by unfold rem;omega⟩;show rem L k+skb false (L.drop (rem L k))=rem L k;have:rem L k=k+skb true (L.drop k):=rfl;rw[this,e3];rfl
theorem bl_other(h:L[k]? =some x)(hx:¬(x.toNat=32\/x.toNat=9\/x.toNat=13))(h2:¬(x.toNat=45/\L[k+1]? =some 45)):bl L k=k:=by
 unfold bl;rw[drop_cons h,skb_f,if_neg hx,if_neg (by rw[List.head?_drop];exact h2)];rfl
theorem rem_end(h:L.length<=k):rem L k=k:=by unfold rem;rw[List.drop_eq_nil_of_le h];simp[skb]
theorem rem_nl(h:L[k]? =some x)(hx:x.toNat=10):rem L k=k:=by unfold rem;rw[drop_cons h,skb_t,if_pos hx];rfl
theorem rem_step(h:L[k]? =some x)(hx:¬x.toNat=10):rem L k=rem L (k+1):=by
 unfold rem;rw[drop_cons h,skb_t,if_neg hx];omega
theorem rem_le(L:List UInt8)(k:Nat)(hk:k<=L.length):rem L k<=L.length:=by
 unfold rem;have:=skb_le true (L.drop k);rw[List.length_drop]at this;omega
theorem bl_ge(L:List UInt8)(k:Nat):k<=bl L k:=by unfold bl;omega
def IxAll(T:ByteArray)(L:List UInt8):Prop:=∀(k:Nat) (c:UInt8),L[k]? =some c->∀w:World,(Instr.index 9 (.string T) (.int .i64 k)).run Tryz.prog w=.ok (.int .u8 c.toNat) w
def LkAll(T:ByteArray)(L:List UInt8):Prop:=∀(k:Nat) (w:World),Calls Tryz.prog 122 #[.string T,.int .i64 k] w λe w'=>e=.returned (.int .u8 ((lk L k).toNat:Int))/\w'=w
theorem pre_one(L:List UInt8)(k:Nat)(a:UInt8):pre L k [a]=true↔L[k]? =some a:=by
 unfold pre;cases h:L[k]? with
 |none=>rw[List.drop_eq_nil_of_le (List.getElem?_eq_none_iff.1 h)];simp
 |some x=>rw[drop_cons h];simp
theorem pre_two(L:List UInt8)(k:Nat)(a b:UInt8):pre L k [a,b]=true↔L[k]? =some a/\L[k+1]? =some b:=by
 unfold pre;cases h:L[k]? with
 |none=>rw[List.drop_eq_nil_of_le (List.getElem?_eq_none_iff.1 h)];simp
 |some x=>
  rw[drop_cons h];cases h2:L[k+1]? with
  |none=>rw[List.drop_eq_nil_of_le (List.getElem?_eq_none_iff.1 h2)];simp
  |some y=>rw[drop_cons h2];simp
def atOf(B:Nat)(w:World):Nat:=match w.cell? ⟨B,1,none⟩with
 |some (.int _ k)=>k.toNat
 |_=>0
theorem atOf_sb{k:Int}(h:Sb B T k l st w):atOf B w=k.toNat:=by
 unfold atOf;rw[h.c1]
def Mv(B:Nat)(T:ByteArray)(k l:Int)(st:Bool)(w w':World):Prop:=Kb B w w'/\Sb B T k l st w'
theorem Mv.trans{k k' l':Int}{st':Bool}(h:Mv B T k l st a b)(g:Mv B T k' l' st' b c):Mv B T k' l' st' a c:=⟨h.1.trans g.1,g.2⟩
theorem Mv.refl{k:Int}(h:Sb B T k l st w):Mv B T k l st w w:=⟨Kb.refl B w,h⟩
theorem Mv.below{k:Int}(h:Sb B T k l st w)(hb:Below n w w')(hn:w.heap.size<=n):Mv B T k l st w w':=⟨Kb.of_below hb hn,h.below hb hn⟩
theorem Mv.drew{k:Int}(h:Sb B T k l st w)(hw:∃m,w'=w.drewN m):Mv B T k l st w w':=by
 obtain⟨m,rfl⟩:=hw;exact⟨(Kb.refl B w).drewN m,h⟩
theorem ended_mv{k:Int}(z:Bool)(hz:(k==(T.size:Int))=z)(w:World)(h:Sb B T k l st w):
  Calls Tryz.prog 144 #[.pointer (some ⟨B,0,none⟩)] w λe w'=>e=.returned (.bool z)/\Mv B T k l st w w':=
 (ended_run B T k l st z hz w h).mono λe w' hh=>⟨hh.1,Mv.drew h hh.2⟩
theorem sees_mv(p:ByteArray)(z:Bool)(hk:k<=T.size)(hz:pre T.data.toList k p.data.toList=z)(w:World)(h:Sb B T k l st w):
  Calls Tryz.prog 158 #[.pointer (some ⟨B,0,none⟩),.string p] w λe w'=>e=.returned (.bool z)/\Mv B T k l st w w':=
 (sees_run p z hk hz w h).mono λe w' hh=>⟨hh.1,Mv.drew h hh.2⟩
theorem take_mv(c:UInt8)(ci:Int)(hci:ci=(c.toNat:Int))(z:Bool)(k':Nat)(hlen:T.size<=65536)(hk:k<=T.size)
  (hz:(T.data.toList[k]? =some c/\z=true/\k'=k+1)\/(T.data.toList[k]? ≠some c/\z=false/\k'=k)) (w:World) (h:Sb B T k l st w):
  Calls Tryz.prog 150 #[.pointer (some ⟨B,0,none⟩),.int .u8 ci] w λe w'=>e=.returned (.bool z)/\Mv B T k' l st w w':=by
 subst hci;rcases hz with⟨h1,rfl,rfl⟩|⟨h1,rfl,rfl⟩
 ·exact(take_yes c hlen h1 w h).mono λe w' hh=>⟨hh.1,hh.2.1,hh.2.2⟩
 ·cases hx:T.data.toList[k']? with
  |none=>
   have:T.size<=k':=by have:=List.getElem?_eq_none_iff.1 hx;simpa using this
   exact(take_end _ (by omega) w h).mono λe w' hh=>⟨hh.1,Mv.drew h hh.2⟩
  |some x=>
   refine(take_no _ x hx ?_ w h).mono λe w' hh=>⟨hh.1,Mv.drew h hh.2⟩
   simp
   intro g;exact h1 (by rw[hx,UInt8.toNat_inj.1 (show x.toNat=c.toNat by omega)])
theorem remark_no(hk:k<=T.size)(hz:pre T.data.toList k [45,45]=false)(w:World)(h:Sb B T k l st w):
  Calls Tryz.prog 151 #[.pointer (some ⟨B,0,none⟩)] w λe w'=>e=.returned (.bool false)/\Mv B T k l st w w':=by
 have hs:=sees_mv ⟨#[45,45]⟩ false hk hz w h;clear h hz;go_enter Tryz.func151,Tryz.ntmps151;go_wp2_with fail;refine hs.mono ?_;rintro e w1 ⟨rfl,hm⟩;clear hs;go_wp2_with fail;go_ret;exact⟨rfl,hm⟩
theorem remark_yes(L:List UInt8)(hT:T.data.toList=L)(hlen:T.size<=65536)(hk:k<=T.size)(hz:pre L k [45,45]=true)(w:World)(h:Sb B T k l st w):
  Calls Tryz.prog 151 #[.pointer (some ⟨B,0,none⟩)] w λe w'=>e=.returned (.bool true)/\Mv B T (rem L k:Nat) l st w w':=by
 have hsz:T.size=L.length:=by rw[<-hT];simp
 have hs:=sees_mv ⟨#[45,45]⟩ true hk (by rw[hT];exact hz) w h;obtain⟨M,hM,hLM⟩:∃M:Int,M<=65536/\(L.length:Int)<=M:=⟨L.length,by omega,Int.le_refl _⟩
 clear h hz hlen;go_enter Tryz.func151,Tryz.ntmps151;go_wp2_with fail;refine hs.mono ?_;rintro e w1 ⟨rfl,hm⟩;have HS:Hid (Mv B T k l st w w1):=hm;clear hs hm;go_wp2_with fail
 go_loopw [] (λwr=>∃j:Nat,k<=j/\j<=L.length/\Hid (Mv B T j l st w wr/\rem L k=rem L j)) (λwr=>L.length-atOf B wr)
 case atStart=>exact⟨k,Nat.le_refl _,by omega,(⟨HS,rfl⟩:Mv B T k l st w w1/\rem L k=rem L k)⟩
 case round=>
  clear HS;obtain⟨j,hkj,hj,HR⟩:=hrel;obtain⟨hK,hR⟩:=(uh HR)
  clear HR;have hat:=atOf_sb hK.2;by_cases hjn:j<L.length
  ·have hx:=List.getElem?_eq_getElem hjn;have he:=ended_mv false (by simp;omega) wr hK.2;have hjM:(j:Int)<M:=by omega
   generalize L[j]=x at hx;by_cases h10:x.toNat=10
   ·have hx10:x=10:=UInt8.toNat_inj.1 h10;subst hx10;have hp:=λw1 (h1:Mv B T j l st wr w1)=>sees_mv ⟨#[10]⟩ true (by omega) (by rw[hT];exact(pre_one L j 10).2 hx) w1 h1.2;have HF:Hid (∀w1,Mv B T j l st wr w1->Mv B T (rem L k:Nat) l st w w1):=(λw1 h1=>by rw[hR,rem_nl hx h10];exact hK.trans h1:∀w1,Mv B T j l st wr w1->Mv B T (rem L k:Nat) l st w w1)
    clear hx hK hR hat h10;go_wp2_with fail;refine he.mono ?_;rintro e w1 ⟨rfl,m1⟩;have hp1:=hp w1 m1;clear he hp;go_wp2_with fail;refine hp1.mono ?_;rintro e w2 ⟨rfl,m2⟩;have hF:=(uh HF) w2 (m1.trans m2);clear hp1 HF m1 m2;go_wp2_with fail;go_ret;exact⟨rfl,hF⟩
   ·have hp:=λw1 (h1:Mv B T j l st wr w1)=>sees_mv ⟨#[10]⟩ false (by omega) (by rw[hT,Bool.eq_false_iff];intro g;have g2:=(pre_one L j 10).1 g;rw[hx]at g2;cases g2;exact h10 rfl) w1 h1.2
    have HF:Hid (∀w1,Mv B T j l st wr w1->Mv B T ((j+1:Nat):Int) l st w (w1.setCell ⟨B,1,none⟩ (.int .i64 ((j:Int)+1)))/\rem L k=rem L (j+1)):=
     (λw1 h1=>⟨⟨(hK.trans h1).1.setCell 1 _,h1.2.set1 _⟩,hR.trans (rem_step hx h10)⟩:∀w1,Mv B T j l st wr w1->Mv B T ((j+1:Nat):Int) l st w (w1.setCell ⟨B,1,none⟩ (.int .i64 ((j:Int)+1)))/\rem L k=rem L (j+1))
    clear hx hK hR h10;go_wp2_with fail;refine he.mono ?_;rintro e w1 ⟨rfl,m1⟩;have hp1:=hp w1 m1;clear he hp;go_wp2_with fail;refine hp1.mono ?_;rintro e w2 ⟨rfl,m2⟩;have c1:=m2.2.c1;have f1:=m2.2.fz 1;have hF:=(uh HF) w2 (m1.trans m2);have hat2:=atOf_sb hF.1.2;have HF2:Hid (Mv B T ((j+1:Nat):Int) l st w (w2.setCell ⟨B,1,none⟩ (.int .i64 ((j:Int)+1)))/\rem L k=rem L (j+1)):=hF;clear hp1 HF m1 m2 hF;go_wp2_with fail;refine⟨⟨j+1,by omega,by omega,HF2⟩,?_⟩;rw[hat2,hat];omega
  ·have he:=ended_mv true (by simp;omega) wr hK.2;have HF:Hid (∀w1,Mv B T j l st wr w1->Mv B T (rem L k:Nat) l st w w1):=(λw1 h1=>by rw[hR,rem_end (by omega)];exact hK.trans h1:∀w1,Mv B T j l st wr w1->Mv B T (rem L k:Nat) l st w w1)
   clear hK hR hat;go_wp2_with fail;refine he.mono ?_;rintro e w1 ⟨rfl,m1⟩;have hF:=(uh HF) w1 m1;clear he HF m1;go_wp2_with fail;go_ret;exact⟨rfl,hF⟩
theorem impl_blanks(L:List UInt8)(hT:T.data.toList=L)(hlen:T.size<=65536)(hk:k<=T.size)(w:World)(h:Sb B T k l st w):
  Calls Tryz.prog 143 #[.pointer (some ⟨B,0,none⟩)] w λe w'=>e=.returned (.tuple #[])/\Mv B T (bl L k:Nat) l st w w':=by
 have hsz:T.size=L.length:=by rw[<-hT];simp
 have HS:Hid (Mv B T k l st w w):=Mv.refl h;have HLN:Hid (T.size<=65536):=hlen;clear h hlen;go_enter Tryz.func143,Tryz.ntmps143;go_wp2_with fail
 go_loopw [] (λwr=>∃j:Nat,j<=L.length/\Hid (Mv B T j l st w wr/\bl L k=bl L j)) (λwr=>L.length-atOf B wr)
 case atStart=>exact⟨k,by omega,(⟨HS,rfl⟩:Mv B T k l st w w/\bl L k=bl L k)⟩
 case round=>
  clear HS;obtain⟨j,hj,HR⟩:=hrel;obtain⟨hK,hR⟩:=(uh HR)
  clear HR;have hat:=atOf_sb hK.2;have hlen:=(uh HLN)
  have HT:=λ(c:UInt8) (z:Bool) (k':Nat) hz w1 (h1:Mv B T j l st wr w1)=>take_mv (B:=B) (T:=T) (k:=j) (l:=l) (st:=st) c (c.toNat:Int) rfl z k' hlen (by omega) hz w1 h1.2;rw[hT]at HT
  have step:∀j':Nat,bl L j=bl L j'->j'<=L.length->j<j'->Hid (∀w1,Mv B T j' l st wr w1->(∃j:Nat,j<=L.length/\Hid (Mv B T j l st w w1/\bl L k=bl L j))/\L.length-atOf B w1<L.length-atOf B wr):=λj' e1 e2 e3=>
   (λw1 h1=>⟨⟨j',e2,(⟨hK.trans h1,hR.trans e1⟩:_/\_)⟩,by rw[atOf_sb h1.2,hat];omega⟩:∀w1,Mv B T j' l st wr w1->(∃j:Nat,j<=L.length/\Hid (Mv B T j l st w w1/\bl L k=bl L j))/\L.length-atOf B w1<L.length-atOf B wr)
  have stop:bl L j=j->Hid (∀w1,Mv B T j l st wr w1->Mv B T (bl L k:Nat) l st w w1):=λe=>(λw1 h1=>by rw[hR,e];exact hK.trans h1:∀w1,Mv B T j l st wr w1->Mv B T (bl L k:Nat) l st w w1)
  have h0:=Mv.refl hK.2;by_cases hjn:j<L.length
  ·have hx:=List.getElem?_eq_getElem hjn;generalize L[j]=x at hx;by_cases hb32:x=32
   ·subst hb32;have t0:∀w1,Mv B T j l st wr w1->Calls Tryz.prog 150 #[.pointer (some ⟨B,0,none⟩),.int .u8 32] w1 λe w'=>e=.returned (.bool true)/\Mv B T ((j+1):Nat) l st w1 w':=λw1 h1=>HT 32 true (j+1) (.inl ⟨hx,rfl,rfl⟩) w1 h1;have HF:=step (j+1) (bl_blank hx (by decide)) (by omega) (by omega);clear HT hK hR hat step stop hx;go_wp2_with fail;refine(t0 _ h0).mono ?_;rintro e w1 ⟨rfl,m1⟩;have hF:=(uh HF) _ (h0.trans m1);clear HF m1 t0 h0;go_wp2_with fail;exact hF
   by_cases hb9:x=9
   ·subst hb9;have t0:∀w1,Mv B T j l st wr w1->Calls Tryz.prog 150 #[.pointer (some ⟨B,0,none⟩),.int .u8 32] w1 λe w'=>e=.returned (.bool false)/\Mv B T (j:Nat) l st w1 w':=λw1 h1=>HT 32 false j (.inr ⟨by rw[hx];decide,rfl,rfl⟩) w1 h1;have t1:∀w1,Mv B T j l st wr w1->Calls Tryz.prog 150 #[.pointer (some ⟨B,0,none⟩),.int .u8 9] w1 λe w'=>e=.returned (.bool true)/\Mv B T ((j+1):Nat) l st w1 w':=λw1 h1=>HT 9 true (j+1) (.inl ⟨hx,rfl,rfl⟩) w1 h1;have HF:=step (j+1) (bl_blank hx (by decide)) (by omega) (by omega);clear HT hK hR hat step stop hx;go_wp2_with fail;refine(t0 _ h0).mono ?_;rintro e w1 ⟨rfl,m1⟩;have n1:=h0.trans m1;clear h0 m1 t0;go_wp2_with fail;refine(t1 _ n1).mono ?_;rintro e w2 ⟨rfl,m2⟩;have hF:=(uh HF) _ (n1.trans m2);clear HF m2 t1 n1;go_wp2_with fail;exact hF
   by_cases hb13:x=13
   ·subst hb13;have t0:∀w1,Mv B T j l st wr w1->Calls Tryz.prog 150 #[.pointer (some ⟨B,0,none⟩),.int .u8 32] w1 λe w'=>e=.returned (.bool false)/\Mv B T (j:Nat) l st w1 w':=λw1 h1=>HT 32 false j (.inr ⟨by rw[hx];decide,rfl,rfl⟩) w1 h1;have t1:∀w1,Mv B T j l st wr w1->Calls Tryz.prog 150 #[.pointer (some ⟨B,0,none⟩),.int .u8 9] w1 λe w'=>e=.returned (.bool false)/\Mv B T (j:Nat) l st w1 w':=λw1 h1=>HT 9 false j (.inr ⟨by rw[hx];decide,rfl,rfl⟩) w1 h1;have t2:∀w1,Mv B T j l st wr w1->Calls Tryz.prog 150 #[.pointer (some ⟨B,0,none⟩),.int .u8 13] w1 λe w'=>e=.returned (.bool true)/\Mv B T ((j+1):Nat) l st w1 w':=λw1 h1=>HT 13 true (j+1) (.inl ⟨hx,rfl,rfl⟩) w1 h1;have HF:=step (j+1) (bl_blank hx (by decide)) (by omega) (by omega);clear HT hK hR hat step stop hx;go_wp2_with fail;refine(t0 _ h0).mono ?_;rintro e w1 ⟨rfl,m1⟩;have n1:=h0.trans m1;clear h0 m1 t0;go_wp2_with fail;refine(t1 _ n1).mono ?_;rintro e w2 ⟨rfl,m2⟩;have n2:=n1.trans m2;clear n1 m2 t1;go_wp2_with fail;refine(t2 _ n2).mono ?_;rintro e w3 ⟨rfl,m3⟩;have hF:=(uh HF) _ (n2.trans m3);clear HF m3 t2 n2;go_wp2_with fail;exact hF
   by_cases hp:pre L j [45,45]=true
   ·obtain⟨p1,p2⟩:=(pre_two L j 45 45).1 hp;obtain⟨r1,r2,r3⟩:=bl_remark p1 p2;have hr4:=rem_le L j hj;have t0:∀w1,Mv B T j l st wr w1->Calls Tryz.prog 150 #[.pointer (some ⟨B,0,none⟩),.int .u8 32] w1 λe w'=>e=.returned (.bool false)/\Mv B T j l st w1 w':=λw1 h1=>HT 32 false j (.inr ⟨by rw[hx];intro g;exact hb32 (Option.some.inj g),rfl,rfl⟩) w1 h1;have t1:∀w1,Mv B T j l st wr w1->Calls Tryz.prog 150 #[.pointer (some ⟨B,0,none⟩),.int .u8 9] w1 λe w'=>e=.returned (.bool false)/\Mv B T j l st w1 w':=λw1 h1=>HT 9 false j (.inr ⟨by rw[hx];intro g;exact hb9 (Option.some.inj g),rfl,rfl⟩) w1 h1;have t2:∀w1,Mv B T j l st wr w1->Calls Tryz.prog 150 #[.pointer (some ⟨B,0,none⟩),.int .u8 13] w1 λe w'=>e=.returned (.bool false)/\Mv B T j l st w1 w':=λw1 h1=>HT 13 false j (.inr ⟨by rw[hx];intro g;exact hb13 (Option.some.inj g),rfl,rfl⟩) w1 h1;have t3:=λw1 (h1:Mv B T j l st wr w1)=>remark_yes L hT hlen (by omega) hp w1 h1.2;have HF:=step (rem L j) (r1.trans r2.symm) hr4 r3;clear hp p1 p2 r1 r2 r3 hr4 hx hlen hb32 hb9 hb13;clear HT hK hR hat step stop;go_wp2_with fail;refine(t0 _ h0).mono ?_;rintro e w1 ⟨rfl,m1⟩;have n1:=h0.trans m1;clear h0 m1 t0;go_wp2_with fail;refine(t1 _ n1).mono ?_;rintro e w2 ⟨rfl,m2⟩;have n2:=n1.trans m2;clear n1 m2 t1;go_wp2_with fail;refine(t2 _ n2).mono ?_;rintro e w3 ⟨rfl,m3⟩;have n3:=n2.trans m3;clear n2 m3 t2;go_wp2_with fail;refine(t3 _ n3).mono ?_;rintro e w4 ⟨rfl,m4⟩;have hF:=(uh HF) _ (n3.trans m4);clear HF m4 t3 n3;go_wp2_with fail;exact hF
   ·have hp2:pre L j [45,45]=false:=by simpa using hp
    have t0:∀w1,Mv B T j l st wr w1->Calls Tryz.prog 150 #[.pointer (some ⟨B,0,none⟩),.int .u8 32] w1 λe w'=>e=.returned (.bool false)/\Mv B T j l st w1 w':=λw1 h1=>HT 32 false j (.inr ⟨by rw[hx];intro g;exact hb32 (Option.some.inj g),rfl,rfl⟩) w1 h1;have t1:∀w1,Mv B T j l st wr w1->Calls Tryz.prog 150 #[.pointer (some ⟨B,0,none⟩),.int .u8 9] w1 λe w'=>e=.returned (.bool false)/\Mv B T j l st w1 w':=λw1 h1=>HT 9 false j (.inr ⟨by rw[hx];intro g;exact hb9 (Option.some.inj g),rfl,rfl⟩) w1 h1;have t2:∀w1,Mv B T j l st wr w1->Calls Tryz.prog 150 #[.pointer (some ⟨B,0,none⟩),.int .u8 13] w1 λe w'=>e=.returned (.bool false)/\Mv B T j l st w1 w':=λw1 h1=>HT 13 false j (.inr ⟨by rw[hx];intro g;exact hb13 (Option.some.inj g),rfl,rfl⟩) w1 h1;have t3:=λw1 (h1:Mv B T j l st wr w1)=>remark_no (by omega) (by rw[hT];exact hp2) w1 h1.2;have HF:=stop (bl_other hx (by intro g;rcases g with g|g|g;exact hb32 (UInt8.toNat_inj.1 g);exact hb9 (UInt8.toNat_inj.1 g);exact hb13 (UInt8.toNat_inj.1 g)) (λg=>hp ((pre_two L j 45 45).2 ⟨by rw[hx,UInt8.toNat_inj.1 (show x.toNat=(45:UInt8).toNat from g.1)],g.2⟩)));clear hp hp2 hx hlen hb32 hb9 hb13;clear HT hK hR hat step stop;go_wp2_with fail;refine(t0 _ h0).mono ?_;rintro e w1 ⟨rfl,m1⟩;have n1:=h0.trans m1;clear h0 m1 t0;go_wp2_with fail;refine(t1 _ n1).mono ?_;rintro e w2 ⟨rfl,m2⟩;have n2:=n1.trans m2;clear n1 m2 t1;go_wp2_with fail;refine(t2 _ n2).mono ?_;rintro e w3 ⟨rfl,m3⟩;have n3:=n2.trans m3;clear n2 m3 t2;go_wp2_with fail;refine(t3 _ n3).mono ?_;rintro e w4 ⟨rfl,m4⟩;have hF:=(uh HF) _ (n3.trans m4);clear HF m4 t3 n3;go_wp2_with fail
    go_end0
    exact⟨rfl,hF⟩
  ·have hx:L[j]? =none:=List.getElem?_eq_none_iff.2 (by omega);have hp2:pre L j [45,45]=false:=by rw[Bool.eq_false_iff];intro g;have:=((pre_two L j 45 45).1 g).1;rw[hx]at this;cases this
   have t0:∀w1,Mv B T j l st wr w1->Calls Tryz.prog 150 #[.pointer (some ⟨B,0,none⟩),.int .u8 32] w1 λe w'=>e=.returned (.bool false)/\Mv B T j l st w1 w':=λw1 h1=>HT 32 false j (.inr ⟨(by rw[hx];intro g;cases g),rfl,rfl⟩) w1 h1;have t1:∀w1,Mv B T j l st wr w1->Calls Tryz.prog 150 #[.pointer (some ⟨B,0,none⟩),.int .u8 9] w1 λe w'=>e=.returned (.bool false)/\Mv B T j l st w1 w':=λw1 h1=>HT 9 false j (.inr ⟨(by rw[hx];intro g;cases g),rfl,rfl⟩) w1 h1;have t2:∀w1,Mv B T j l st wr w1->Calls Tryz.prog 150 #[.pointer (some ⟨B,0,none⟩),.int .u8 13] w1 λe w'=>e=.returned (.bool false)/\Mv B T j l st w1 w':=λw1 h1=>HT 13 false j (.inr ⟨(by rw[hx];intro g;cases g),rfl,rfl⟩) w1 h1;have t3:=λw1 (h1:Mv B T j l st wr w1)=>remark_no (by omega) (by rw[hT];exact hp2) w1 h1.2;have HF:=stop (bl_end (by omega));clear hp2 hx hlen;clear HT hK hR hat step stop;go_wp2_with fail;refine(t0 _ h0).mono ?_;rintro e w1 ⟨rfl,m1⟩;have n1:=h0.trans m1;clear h0 m1 t0;go_wp2_with fail;refine(t1 _ n1).mono ?_;rintro e w2 ⟨rfl,m2⟩;have n2:=n1.trans m2;clear n1 m2 t1;go_wp2_with fail;refine(t2 _ n2).mono ?_;rintro e w3 ⟨rfl,m3⟩;have n3:=n2.trans m3;clear n2 m3 t2;go_wp2_with fail;refine(t3 _ n3).mono ?_;rintro e w4 ⟨rfl,m4⟩;have hF:=(uh HF) _ (n3.trans m4);clear HF m4 t3 n3;go_wp2_with fail
   go_end0
   exact⟨rfl,hF⟩
def rl (p:UInt8->Bool):List UInt8->Nat
 | []=>0
 |c::r=>if p c then 1+rl p r else 0
theorem rl_le (p:UInt8->Bool):∀r:List UInt8,rl p r<=r.length
 | []=>by simp[rl]
 |c::r=>by unfold rl;have:=rl_le p r;split<;>simp<;>omega
def en(p:UInt8->Bool)(L:List UInt8)(k:Nat):Nat:=k+rl p (L.drop k)
theorem en_ge(p:UInt8->Bool)(L:List UInt8)(k:Nat):k<=en p L k:=by unfold en;omega
theorem en_le(p:UInt8->Bool)(L:List UInt8)(k:Nat)(hk:k<=L.length):en p L k<=L.length:=by
 unfold en;have:=rl_le p (L.drop k);rw[List.length_drop]at this;omega
theorem en_end(h:L.length<=k):en p L k=k:=by unfold en;rw[List.drop_eq_nil_of_le h];simp[rl]
theorem en_step(h:L[k]? =some x)(hx:p x=true):en p L k=en p L (k+1):=by
 unfold en;rw[drop_cons h,rl,if_pos hx];omega
theorem en_stop(h:L[k]? =some x)(hx:p x=false):en p L k=k:=by
 unfold en;rw[drop_cons h,rl,if_neg (by simp[hx])];rfl
theorem en_mid {p:UInt8->Bool} {L:List UInt8}:∀(n k j:Nat),en p L k=k+n->k<=j->j<k+n->∃x,L[j]? =some x/\p x=true
 |0,k,j,_,h1,h2=>by omega
 |n+1,k,j,h,h1,h2=>by
  cases hx:L[k]? with
  |none=>rw[en_end (List.getElem?_eq_none_iff.1 hx)]at h;omega
  |some x=>
   by_cases hp:p x=true
   ·by_cases hj:j=k
    ·subst hj;exact⟨x,hx,hp⟩
    ·exact en_mid n (k+1) j (by rw[en_step hx hp]at h;omega) (by omega) (by omega)
   ·rw[en_stop hx (by simpa using hp)]at h;omega
theorem getD_of{α:Type}(l:List α)(i:Nat)(d:α)(h:i<l.length):l.getD i d=l[i]:=by rw[List.getD,List.getElem?_eq_getElem h];rfl
def isW(c:UInt8):Bool:=isL c||isD c
theorem isW_zero:isW 0=false:=by decide
def wordsL:List (List UInt8):=[[97,110,100],[98,114,101,97,107],[99,97,116,99,104],[99,111,110,115,116],[100,101,102,101,114],[101,108,105,102],[101,108,115,101],[102,97,108,115,101],[102,110],[102,111,114],[105,102],[105,110],[108,101,116],[110,101,120,116],[110,105,108],[110,111,116],[111,114],[114,101,116,117,114,110],[116,104,114,111,119],[116,114,117,101],[116,114,121],[119,104,105,108,101]]
def wordsB(i:Nat):ByteArray:=⟨(wordsL.getD i []).toArray⟩
def wordsA:Array Value:=(wordsL.map (λx=>Value.string ⟨x.toArray⟩)).toArray
theorem words_len:wordsL.length=22:=by decide
theorem words_get(i:Nat)(hi:i<22):wordsA[i]? =some (.string (wordsB i)):=by
 have h:i<wordsL.length:=by rw[words_len];exact hi
 simp[wordsA,wordsB,List.getElem?_eq_getElem h]
def marksL:List (List UInt8):=[[40],[41],[123],[125],[91],[93],[44],[61],[46],[46,46,46],[35]]
def marksB(i:Nat):ByteArray:=⟨(marksL.getD i []).toArray⟩
def marksA:Array Value:=(marksL.map (λx=>Value.string ⟨x.toArray⟩)).toArray
theorem marks_len:marksL.length=11:=by decide
theorem marks_get(i:Nat)(hi:i<11):marksA[i]? =some (.string (marksB i)):=by
 have h:i<marksL.length:=by rw[marks_len];exact hi
 simp[marksA,marksB,List.getElem?_eq_getElem h]
theorem marks_list(i:Nat):(marksB i).data.toList=marksL.getD i []:=by simp[marksB]
def infixL:List (List UInt8):=[[43],[45],[42],[47],[47,47],[37],[38],[124],[126],[60,60],[62,62],[46,46],[61,61],[126,61],[60],[60,61],[62],[62,61]]
def infixB(i:Nat):ByteArray:=⟨(infixL.getD i []).toArray⟩
def infixA:Array Value:=(infixL.map (λx=>Value.string ⟨x.toArray⟩)).toArray
theorem infix_len:infixL.length=18:=by decide
theorem infix_get(i:Nat)(hi:i<18):infixA[i]? =some (.string (infixB i)):=by
 have h:i<infixL.length:=by rw[infix_len];exact hi
 simp[infixA,infixB,List.getElem?_eq_getElem h]
theorem infix_list(i:Nat):(infixB i).data.toList=infixL.getD i []:=by simp[infixB]
def wfind(ws:List (List UInt8))(x:List UInt8):Option Nat:=ws.findIdx? (λy=>y==x)
theorem wfind_some{x:List UInt8}{i:Nat}(h1:i<ws.length)(h:ws.getD i []=x)(hb:∀j,j<i->ws.getD j []≠x):wfind ws x=some i:=by
 unfold wfind;rw[List.findIdx?_eq_some_iff_getElem];refine⟨h1,?_,λj hj=>?_⟩
 ·rw[getD_of _ _ _ h1]at h;simp[h]
 ·have:=hb j hj;rw[getD_of _ _ _ (by omega)]at this
  simpa using this
theorem wfind_none{x:List UInt8}(hb:∀j,j<ws.length->ws.getD j []≠x):wfind ws x=none:=by
 unfold wfind;rw[List.findIdx?_eq_none_iff];intro y hy;obtain⟨j,hj,rfl⟩:=List.mem_iff_getElem.1 hy;have:=hb j hj;rw[getD_of _ _ _ hj]at this
 simpa using this
theorem cmp_list(a b:ByteArray):(a.toList==b.toList)=(a.data.toList==b.data.toList):=by rw[Lib.toList_data,Lib.toList_data]
theorem ext_list(T:ByteArray)(k j:Nat):(T.extract k j).data.toList=(T.data.toList.drop k).take (j-k):=Lib.extract_data T k j
theorem spec_words(w:World):Calls Tryz.prog 76 #[] w λe w'=>e=.returned (.slice (some ⟨w.heap.size,0,none⟩) 22 22)/\w'=w.alloc (.cells wordsA 9):=by
 go_enter Tryz.func76,Tryz.ntmps76;go_wp2;go_ret;exact⟨rfl,rfl⟩
def tokV(kind a b c num:Int)(t:ByteArray):Value:=.agg #[.int .i64 kind,.int .i64 a,.int .i64 b,.int .i64 c,.int .i64 num,.string t]
