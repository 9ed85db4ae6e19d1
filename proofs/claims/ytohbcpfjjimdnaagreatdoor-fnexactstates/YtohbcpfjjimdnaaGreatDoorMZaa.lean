import Derived.Test.YtohbcpfjjimdnaaGreatDoorMBab
import Derived.Test.YtohbcpfjjimdnaaGreatDoorMFlt
set_option maxRecDepth 100000
set_option maxHeartbeats 1000000
namespace Go.Proofs.YtohbcpfjjimdnaaGreatDoor.Fo
open Go.ChangeShapes Go.WideShapes Go.ChangeAt Go.RowKit
set_option linter.unusedVariables false
theorem quo_run{x r:Nat}(h:floatBits .quo .f64 4607182418800017408 x=some r)(w:World):(binOp .quo 149 (.float .f64 4607182418800017408) (.float .f64 x)).run Tryz.prog w=.ok (.float .f64 r) w:=
 run_float_arith w .quo 149 .f64 _ _ _ h
theorem same_flt(x:Nat)(hx:x<18446744073709551616)(w:World):Calls Tryz.prog 143 #[.float .f64 x,.float .f64 x] w λe w'=>e=.returned (.bool true)/\w'=w:=by
 rcases Flt.zero_cases x hx with h|⟨h,h0,hz⟩|⟨h,h0⟩
 ·go_enter Tryz.func143,Tryz.ntmps143;go_wp2;go_ret;exact⟨rfl,rfl⟩
 ·rcases hz with rfl|rfl
  ·have hq:=quo_run (x:=0) (r:=9218868437227405312) (by decide);have hg:FloatKind.f64.format.order 9218868437227405312 0=some .gt:=by decide
   go_enter Tryz.func143,Tryz.ntmps143;go_wp2;go_ret;exact⟨rfl,rfl⟩
  ·have hq:=quo_run (x:=9223372036854775808) (r:=18442240474082181120) (by decide);have hg:FloatKind.f64.format.order 18442240474082181120 0=some .lt:=by decide
   go_enter Tryz.func143,Tryz.ntmps143;go_wp2;go_ret;exact⟨rfl,rfl⟩
 ·rcases h0 with h0|h0
  all_goals
   go_enter Tryz.func143,Tryz.ntmps143;go_wp2;go_ret;exact⟨rfl,rfl⟩
def fz(g:Nat):Prop:=FloatKind.f64.format.order g 0=some .eq
def fn(g:Nat):Prop:=FloatKind.f64.format.order g g=some .eq
end Go.Proofs.YtohbcpfjjimdnaaGreatDoor.Fo
namespace Go.Proofs.YtohbcpfjjimdnaaGreatDoor.Fo
open Go.ChangeShapes Go.WideShapes Go.ChangeAt Go.RowKit
set_option linter.unusedVariables false
set_option maxRecDepth 100000
variable {b c j n g i:Nat}{x y a w W W' w1:World}{v:Value}{A:Nat->Value}{E:Nat->List Value}{t:TypeId}
structure Kb (b:Nat) (a w:World):Prop where
 os:w.os=a.os
 output:w.output=a.output
 size:a.heap.size<=w.heap.size
 block:∀k,b<=k->k<a.heap.size->w.heap[k]? =a.heap[k]?
theorem Kb.refl(b:Nat)(a:World):Kb b a a:=⟨rfl,rfl,Nat.le_refl _,λ_ _ _=>rfl⟩
theorem Kb.trans{z:World}(h:Kb b x y)(k:Kb b y z):Kb b x z:=⟨k.os.trans h.os,k.output.trans h.output,Nat.le_trans h.size k.size,λi h1 hi=>(k.block i h1 (Nat.lt_of_lt_of_le hi h.size)).trans (h.block i h1 hi)⟩
theorem Kb.mono(h:Kb b x y)(hc:b<=c):Kb c x y:=⟨h.os,h.output,h.size,λi h1 hi=>h.block i (Nat.le_trans hc h1) hi⟩
theorem Kb.of_below(h:Below a.heap.size a w)(b:Nat):Kb b a w:=⟨h.os,h.output,h.size,λk _ hk=>h.block k hk⟩
theorem Kb.drewN(h:Kb b a w)(n:Nat):Kb b a (w.drewN n):=⟨h.os,h.output,h.size,h.block⟩
theorem Kb.drew(h:Kb b a w):Kb b a w.drew:=⟨h.os,h.output,h.size,h.block⟩
theorem Kb.alloc(h:Kb b a w)(o:Obj):Kb b a (w.alloc o):=
 h.trans (.of_below ((Below.refl _ w).alloc (Nat.le_refl _) o) b)
theorem Kb.setCell(h:Kb b a w)(p:Addr)(hp:p.block<b\/a.heap.size<=p.block)(v:Value):Kb b a (w.setCell p v):=
 ⟨h.os,h.output,by simpa using h.size,λk h1 hk=>(Below.heap_setCell w p v k (by omega)).trans (h.block k h1 hk)⟩
theorem Kb.cellA(h:Kb c a w){b:Addr}(hb:c<=b.block)(hc:a.cell? b=some v):w.cell? b=some v:=
 (World.cell?_of_block (h.block b.block hb (lt_of_cell' hc))).trans hc
theorem Kb.cell(h:Kb 0 a w){b:Addr}(hc:a.cell? b=some v):w.cell? b=some v:=h.cellA zq hc
theorem Kb.frozen(h:Kb c a w)(hb:c<=b)(hl:b<a.heap.size):w.frozen? ⟨b,j,none⟩=a.frozen? ⟨b,j,none⟩:=World.frozen?_of_block (h.block b hb hl)
theorem Kb.kept(h:Kb 0 a w):a.keptBut w (λ_=>False):=by
 refine⟨h.os,h.output,λi hi=>?_⟩;rw[h.block i zq hi];generalize a.heap[i]? =o;cases o with
 |none=>rfl
 |some o=>cases o<;>first|exact⟨rfl,rfl,rfl,λ_ _=>rfl⟩|exact .inr ⟨rfl,rfl⟩|rfl
theorem kb_alloc(b:Nat)(w:World)(o:Obj):Kb b w (w.alloc o):=(Kb.refl b w).alloc o
theorem kb_alloc2(b:Nat)(w:World)(o p:Obj):Kb b w ((w.alloc o).alloc p):=((Kb.refl b w).alloc o).alloc p
theorem kb_alloc3(b:Nat)(w:World)(o p q:Obj):Kb b w (((w.alloc o).alloc p).alloc q):=(((Kb.refl b w).alloc o).alloc p).alloc q
def RowB(b:Nat)(W:World)(v:Value)(n:Nat)(A:Nat->Value):Prop:=
 ∃pa cap,v=.slice pa n cap/\(0<n->∃a:Addr,pa=some a/\n<=cap/\b<=a.block/\∀i,i<n->W.cell? (a.add i)=some (A i))
theorem RowB.row(h:RowB b W v n A):RowV W v n A:=by
 obtain⟨pa,cap,h1,h2⟩:=h;refine⟨pa,cap,h1,λhn=>?_⟩;obtain⟨a,e1,e2,_,e3⟩:=h2 hn;exact⟨a,e1,e2,e3⟩
theorem RowB.keep(h:RowB b W v n A)(k:Kb b W W'):RowB b W' v n A:=by
 obtain⟨pa,cap,h1,h2⟩:=h;refine⟨pa,cap,h1,λhn=>?_⟩;obtain⟨a,e1,e2,e0,e3⟩:=h2 hn;exact⟨a,e1,e2,e0,λi hi=>k.cellA (by rw[add_block];exact e0) (e3 i hi)⟩
theorem RowB.mono(h:RowB b W v n A)(hc:c<=b):RowB c W v n A:=by
 obtain⟨pa,cap,h1,h2⟩:=h;refine⟨pa,cap,h1,λhn=>?_⟩;obtain⟨a,e1,e2,e0,e3⟩:=h2 hn;exact⟨a,e1,e2,Nat.le_trans hc e0,e3⟩
theorem addr0(g i:Nat):(⟨g,0,none⟩:Addr).add i=⟨g,i,none⟩:=by
 by_cases e:i=0
 ·subst e;rfl
 ·simp[Addr.add,e]
def setL (W:World) (g o:Nat):List Value->World
 | []=>W
 |v::r=>setL (W.setCell ⟨g,o,none⟩ v) g (o+1) r
theorem setL_size (g:Nat):∀(l:List Value) (W:World) (o:Nat),(setL W g o l).heap.size=W.heap.size
 | [],_,_=>rfl
 |v::r,W,o=>by unfold setL;rw[setL_size g r];simp
theorem setL_os (g:Nat):∀(l:List Value) (W:World) (o:Nat),(setL W g o l).os=W.os/\(setL W g o l).output=W.output
 | [],_,_=>⟨rfl,rfl⟩
 |v::r,W,o=>by unfold setL;exact setL_os g r _ _
theorem setL_block (g:Nat) (b:Nat) (h:b≠g):∀(l:List Value) (W:World) (o:Nat),(setL W g o l).heap[b]? =W.heap[b]?
 | [],_,_=>rfl
 |v::r,W,o=>by unfold setL;rw[setL_block g b h r];exact Below.heap_setCell _ _ _ _ h
theorem setL_fz (g b j:Nat):∀(l:List Value) (W:World) (o:Nat),(setL W g o l).frozen? ⟨b,j,none⟩=W.frozen? ⟨b,j,none⟩
 | [],_,_=>rfl
 |v::r,W,o=>by unfold setL;rw[setL_fz g b j r];simp
theorem setL_far (g j:Nat):∀(l:List Value) (W:World) (o:Nat),j<o\/o+l.length<=j->(setL W g o l).cell? ⟨g,j,none⟩=W.cell? ⟨g,j,none⟩
 | [],_,_,_=>rfl
 |v::r,W,o,h=>by
  unfold setL;simp only[List.length_cons]at h;rw[setL_far g j r _ _ (by omega),set_ne _ _ _ _ _ (by omega)]
theorem setL_at (g:Nat):∀(l:List Value) (W:World) (o:Nat),(∀t,t<l.length->∃u,W.cell? ⟨g,o+t,none⟩=some u)->∀t,t<l.length->(setL W g o l).cell? ⟨g,o+t,none⟩=l[t]?
 | [],_,_,_,t,ht=>by simp at ht
 |v::r,W,o,h,t,ht=>by
  unfold setL;simp only[List.length_cons]at h ht;cases t with
  |zero=>
   obtain⟨u,hu⟩:=h 0 (by omega);rw[setL_far g _ r _ _ (by omega)];exact set_eq _ _ _ _ _ hu
  |succ t=>
   have:=setL_at g r (W.setCell ⟨g,o,none⟩ v) (o+1) (λt ht=>by
    obtain⟨u,hu⟩:=h (t+1) (by omega);refine⟨u,?_⟩;rw[set_ne _ _ _ _ _ (by omega),show o+1+t=o+(t+1) by omega]
    exact hu) t (by omega)
   rw[show o+(t+1)=o+1+t by omega,this];rfl
structure Mk (c:Nat) (w1:World) (g n:Nat) (E:Nat->List Value) (i:Nat) (W:World):Prop where
 os:W.os=w1.os
 output:W.output=w1.output
 size:w1.heap.size<=W.heap.size
 block:∀b,b<w1.heap.size->b≠g->W.heap[b]? =w1.heap[b]?
 ce:∀j,j<i->∀t,t<c->W.cell? ⟨g,j*c+t,none⟩=(E j)[t]?
 rest:∀j,i<=j->j<n->∀t,t<c->∃u,W.cell? ⟨g,j*c+t,none⟩=some u
 fz:∀j,W.frozen? ⟨g,j,none⟩=false
 gl:g<w1.heap.size
theorem Mk.kb(h:Mk c w1 g n E i W)(k:Kb 0 W W'):Mk c w1 g n E i W':=by
 have hg:=Nat.lt_of_lt_of_le h.gl h.size;have e:∀j,W'.cell? ⟨g,j,none⟩=W.cell? ⟨g,j,none⟩:=λj=>World.cell?_of_block (k.block g zq hg);exact⟨k.os.trans h.os,k.output.trans h.output,Nat.le_trans h.size k.size,λb hb hn=>(k.block b zq (Nat.lt_of_lt_of_le hb h.size)).trans (h.block b hb hn),λj hj t ht=>(e _).trans (h.ce j hj t ht),λj h1 h2 t ht=>by rw[e];exact h.rest j h1 h2 t ht,λj=>(k.frozen zq hg).trans (h.fz j),h.gl⟩
theorem Mk.step(h:Mk c w1 g n E i W)(hi:i<n){l:List Value}(hl:l.length=c):Mk c w1 g n (λj=>if j=i then l else E j) (i+1) (setL W g (i*c) l):=by
 have hc0:∀j,j≠i->∀t,t<c->j*c+t<i*c\/i*c+c<=j*c+t:=by
  intro j hj t ht;rcases Nat.lt_or_gt_of_ne hj with q|q
  ·left
   have:(j+1)*c<=i*c:=Nat.mul_le_mul_right c q;rw[Nat.add_mul]at this;omega
  ·right
   have:(i+1)*c<=j*c:=Nat.mul_le_mul_right c q;rw[Nat.add_mul]at this;omega
 have far:∀j,j≠i->∀t,t<c->(setL W g (i*c) l).cell? ⟨g,j*c+t,none⟩=W.cell? ⟨g,j*c+t,none⟩:=λj hj t ht=>setL_far _ _ _ _ _ (by rw[hl];exact hc0 j hj t ht);refine⟨(setL_os _ _ _ _).1.trans h.os,(setL_os _ _ _ _).2.trans h.output,by rw[setL_size];exact h.size,λb hb hn=>(setL_block _ _ hn _ _ _).trans (h.block b hb hn),λj hj t ht=>?_,λj h1 h2 t ht=>by rw[far j (by omega) t ht];exact h.rest j (by omega) h2 t ht,λj=>(setL_fz _ _ _ _ _ _).trans (h.fz j),h.gl⟩;by_cases e:j=i
 ·subst e;rw[if_pos rfl];exact setL_at g l W (j*c) (λt ht=>h.rest j (Nat.le_refl _) hi t (by omega)) t (by omega)
 ·rw[if_neg e,far j e t ht];exact h.ce j (by omega) t ht
theorem made_at(w:World)(z:Value)(c e n:Nat)(hz:z.cells.size=c)(j t:Nat)(hj:j<n)(ht:t<c):(w.alloc (.cells (madeCells z.cells (n*c)) e)).cell? ⟨w.heap.size,j*c+t,none⟩=z.cells[t]?:=by
 have hb:j*c+t<n*c:=by
  have:(j+1)*c<=n*c:=Nat.mul_le_mul_right c hj;rw[Nat.add_mul]at this;omega
 have hg:(madeCells z.cells (n*c))[j*c+t]? =z.cells[t]?:=by
  have hm:(j*c+t)%c=t:=by rw[Nat.add_comm,Nat.add_mul_mod_self_right];exact Nat.mod_eq_of_lt ht
  simp[madeCells,hz,hb,hm];rw[getElem?_pos z.cells t (by omega),getElem!_pos z.cells t (by omega)]
 rw[World.cell?_alloc_at _ _ _ _ rfl];exact hg
theorem mk_zero(w:World)(z:Value)(c e n:Nat)(E:Nat->List Value)(hz:z.cells.size=c):Mk c (w.alloc (.cells (madeCells z.cells (n*c)) e)) w.heap.size n E 0 (w.alloc (.cells (madeCells z.cells (n*c)) e)):=by
 refine⟨rfl,rfl,Nat.le_refl _,λ_ _ _=>rfl,λj hj=>by omega,λj _ hj t ht=>?_,λj=>made_fz _ _ _ _,by simp⟩;rw[made_at w z c e n hz j t hj ht];exact⟨_,getElem?_pos z.cells t (by omega)⟩
theorem cell_of{c:Array Value}(h:W.heap[b]? =some (.cells c t (0,0)))(hv:c[j]? =some v):W.cell? ⟨b,j,none⟩=some v:=by simp[World.cell?,h,hv]
theorem frozen_of{c:Array Value}(h:W.heap[b]? =some (.cells c t (0,0))):W.frozen? ⟨b,j,none⟩=false:=by simp[World.frozen?,h]
theorem alloc_new(w:World)(c:Array Value)(t:TypeId):(w.alloc (.cells c t)).heap[w.heap.size]? =some (.cells c t (0,0)):=by
 show(w.heap.push _)[w.heap.size]? =_;exact Array.getElem?_push_size
theorem set_known{c:Array Value}(v:Value)(h:W.heap[b]? =some (.cells c t (0,0))):(W.setCell ⟨b,j,none⟩ v).heap[b]? =some (.cells (c.setIfInBounds j v) t (0,0)):=heap_setCell_same W b j c t v h
theorem three_new(w:World)(a b c:Array Value)(t1 t2 t3:TypeId)(W:World)(h:W=((w.alloc (.cells a t1)).alloc (.cells b t2)).alloc (.cells c t3)):W.heap[w.heap.size]? =some (.cells a t1 (0,0))/\W.heap[w.heap.size+1]? =some (.cells b t2 (0,0))/\W.heap[w.heap.size+1+1]? =some (.cells c t3 (0,0))/\W.heap.size=w.heap.size+3/\Kb 0 w W:=by
 subst h;have e1:(w.alloc (.cells a t1)).heap.size=w.heap.size+1:=World.size_alloc _ _;have e2:((w.alloc (.cells a t1)).alloc (.cells b t2)).heap.size=w.heap.size+1+1:=by rw[World.size_alloc,e1]
 refine⟨?_,?_,?_,by rw[World.size_alloc,e2],kb_alloc3 _ _ _ _ _⟩
 ·rw[(kb_alloc 0 _ _).block _ zq (by omega),(kb_alloc 0 _ _).block _ zq (by omega)];exact alloc_new _ _ _
 ·rw[(kb_alloc 0 _ _).block _ zq (by omega),<-e1];exact alloc_new _ _ _
 ·rw[<-e2];exact alloc_new _ _ _
