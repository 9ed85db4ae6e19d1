import Derived.Test.YtohbcpfjjimdnaaGreatDoorMTmu
import Derived.Test.YtohbcpfjjimdnaaGreatDoorMTja
set_option maxHeartbeats 32000000
namespace Go.Proofs.YtohbcpfjjimdnaaGreatDoor.Fo
open Go.ChangeShapes Go.WideShapes Go.ChangeAt Go.RowKit
set_option linter.unusedVariables false
set_option maxRecDepth 100000
variable {np i x x0 n G cn base b:Nat}{d:Pd}{E:Obj}{Sn:Nat->Bool}{L T:List Int}{w5 W W' w7:World}{v v' vu vc vd:Value}{pn:Option Addr}{av bv:Nat->Prop}
def Es(d:Pd)(x y:Nat):Prop:=x<d.n/\(y:Int)∈ slt (d.N x) x
theorem slt_len(v:Iv)(i:Nat):(slt v i).length<=2:=by
 unfold slt
 repeat' split
 all_goals simp
theorem slt_rng(h:Iok np d i)(hi:i<d.n):∀y,y ∈ slt (d.N i) i->0<=y/\y<(d.n:Int):=by
 obtain⟨ht,hlast⟩:=h
 have hnx:¬Ends (d.N i).o->(i:Int)+1<(d.n:Int):=λhne=>by
  have:i+1≠d.n:=λe=>hne (hlast e);omega
 have fa:∀o:Nat,(d.N i).o=(o:Int)->pcl (pr o 0)=6->0<=(d.N i).a/\(d.N i).a<=(d.n:Int)-1:=λo ho hp=>by
  have:=ht.2.2 0 (by omega);rw[show(d.N i).o.toNat=o by omega,hp]at this;exact this
 have fb:∀o:Nat,(d.N i).o=(o:Int)->pcl (pr o 1)=6->0<=(d.N i).b/\(d.N i).b<=(d.n:Int)-1:=λo ho hp=>by
  have:=ht.2.2 1 (by omega);rw[show(d.N i).o.toNat=o by omega,hp]at this;exact this
 intro y hy;unfold slt at hy;split at hy
 ·cases hy
 split at hy
 ·cases hy
 split at hy
 ·rename_i h19
  have:=fa 19 h19 (by decide);simp at hy;subst hy;omega
 split at hy
 ·rename_i h41
  have:=fb 41 h41 (by decide);simp at hy;subst hy;omega
 split at hy
 ·rename_i g1 g2 g3 g4 g5
  have hb:0<=(d.N i).b/\(d.N i).b<=(d.n:Int)-1:=by
   rcases g5 with g|g|g|g
   ·exact fb 20 g (by decide)
   ·exact fb 21 g (by decide)
   ·exact fb 38 g (by decide)
   ·exact fb 39 g (by decide)
  have hn:=hnx (by unfold Ends;omega);simp at hy;rcases hy with rfl|rfl<;>omega
 split at hy
 ·rename_i g1 g2 g3 g4 g5 g6
  have ha:=fa 31 g6 (by decide);have hn:=hnx (by unfold Ends;omega);simp at hy;rcases hy with rfl|rfl<;>omega
 ·rename_i g1 g2 g3 g4 g5 g6
  have hn:=hnx (by unfold Ends;omega);simp at hy;subst hy;omega
structure SI (d:Pd) (x0:Nat) (Sn:Nat->Bool) (L:List Int) (i:Nat):Prop where
 le:i<=L.length
 rc:∀y:Int,y ∈ L->∃z:Nat,y=(z:Int)/\z<d.n/\∃u,Es d x0 u/\Rc (Es d) u z
 tk:∀j,j<i->∀z:Nat,L[j]? =some (z:Int)->z≠x0/\Sn z=true
 cl:∀x,x<d.n->Sn x=true->∀y,y ∈ slt (d.N x) x->y ∈ L
 st:∀y,y ∈ slt (d.N x0) x0->y ∈ L
theorem Rc.snoc{E:Nat->Nat->Prop}{y z:Nat}(h:Rc E x y)(e:E y z):Rc E x z:=h.trans (Rc.one e)
theorem si_start(hI:∀i,i<d.n->Iok np d i)(h0:x0<d.n):SI d x0 (λ_=>false) (slt (d.N x0) x0) 0:=by
 refine⟨Nat.zero_le _,λy hy=>?_,λj hj=>by omega,λx _ hx=>by simp at hx,λy hy=>hy⟩;have hr:=slt_rng (hI x0 h0) h0 y hy;refine⟨y.toNat,by omega,by omega,y.toNat,⟨h0,by rw[show((y.toNat:Nat):Int)=y by omega];exact hy⟩,.refl _⟩
theorem SI.found(h:SI d x0 Sn L i)(hx:L[i]? =some (x0:Int)):Cy (Es d) x0:=by
 obtain⟨z,e,_,u,h1,h2⟩:=h.rc _ (List.mem_of_getElem? hx);have:z=x0:=by omega
 subst this;exact⟨u,h1,h2⟩
theorem SI.seen(h:SI d x0 Sn L i)(hx:L[i]? =some (x:Int))(hn:x≠x0)(hs:Sn x=true):SI d x0 Sn L (i+1):=by
 refine⟨(List.getElem?_eq_some_iff.1 hx).1,h.rc,λj hj z hz=>?_,h.cl,h.st⟩;by_cases e:j=i
 ·subst e;rw[hx]at hz;have:x=z:=by have:=Option.some.inj hz;omega
  subst this;exact⟨hn,hs⟩
 ·exact h.tk j (by omega) z hz
theorem SI.new(hI:∀i,i<d.n->Iok np d i)(h:SI d x0 Sn L i)(hx:L[i]? =some (x:Int))(hxn:x<d.n)(hn:x≠x0):SI d x0 (λk=>if k=x then true else Sn k) (L++slt (d.N x) x) (i+1):=by
 have hl:=(List.getElem?_eq_some_iff.1 hx).1;obtain⟨z,e,_,u,h1,h2⟩:=h.rc _ (List.mem_of_getElem? hx);have:z=x:=by omega
 subst this;refine⟨by rw[List.length_append];omega,λy hy=>?_,λj hj z' hz=>?_,λk hk hs y hy=>?_,λy hy=>List.mem_append_left _ (h.st y hy)⟩
 ·rcases List.mem_append.1 hy with hy|hy
  ·exact h.rc y hy
  ·have hr:=slt_rng (hI z hxn) hxn y hy;exact⟨y.toNat,by omega,by omega,u,h1,h2.snoc ⟨hxn,by rw[show((y.toNat:Nat):Int)=y by omega];exact hy⟩⟩
 ·rw[List.getElem?_append_left (by omega)]at hz;by_cases e:j=i
  ·subst e;rw[hx]at hz;have:z=z':=by have:=Option.some.inj hz;omega
   subst this;exact⟨hn,if_pos rfl⟩
  ·obtain⟨a,b⟩:=h.tk j (by omega) z' hz;refine⟨a,?_⟩;by_cases e2:z'=z
   ·rw[if_pos e2]
   ·rw[if_neg e2];exact b
 ·by_cases e2:k=z
  ·subst e2;exact List.mem_append_right _ hy
  ·rw[if_neg e2]at hs;exact List.mem_append_left _ (h.cl k hk hs y hy)
theorem SI.none(h:SI d x0 Sn L L.length):¬Cy (Es d) x0:=by
 rintro⟨u,⟨_,h1⟩,h2⟩
 have hz:∀x:Nat,(x:Int)∈ L->∀y:Nat,Es d x y->(y:Int)∈ L:=λx hx y hy=>by
  obtain⟨j,hj⟩:=List.getElem?_of_mem hx;have:=(h.tk j (List.getElem?_eq_some_iff.1 hj).1 x hj).2;exact h.cl x hy.1 this y hy.2
 have hin:(x0:Int)∈ L:=Rc.closed (Z:=λx=>(x:Int)∈ L) hz h2 (h.st u h1);obtain⟨j,hj⟩:=List.getElem?_of_mem hin;exact(h.tk j (List.getElem?_eq_some_iff.1 hj).1 x0 hj).1 rfl
noncomputable def uns(W:World)(G n:Nat):Nat:=(List.range n).countP (λj=>dc (W.cell? ⟨G,j,none⟩=some (.bool false)))
noncomputable def unsB(Sn:Nat->Bool)(n:Nat):Nat:=(List.range n).countP (λj=>!Sn j)
theorem Ab.uns {w1 W:World} {G n:Nat} {A:Nat->Bool} (h:Ab w1 G n A W):uns W G n=unsB A n:=by
 unfold Fo.uns unsB;apply List.countP_congr;intro j hj;rw[h.ce j (List.mem_range.1 hj)];cases A j<;>simp[dc]
theorem unsB_set(hx:x<n)(hs:Sn x=false):unsB (λk=>if k=x then true else Sn k) n+1=unsB Sn n:=by
  have aux:∀(L:List Nat),L.Nodup->x ∈ L->L.countP (λj=>!(if j=x then true else Sn j))+1=L.countP (λj=>!Sn j):=by
    intro L
    induction L with
    |nil=>intro _ h;cases h
    |cons a L ih=>
      intro hn hm;rw[List.nodup_cons]at hn;by_cases e:a=x
      · subst e
        have he:L.countP (λj=>!(if j=a then true else Sn j))=L.countP (λj=>!Sn j):=by
          apply List.countP_congr;intro j hj;have:j≠a:=λq=>hn.1 (by rw[<-q];exact hj);simp[this]
        rw[List.countP_cons_of_neg (by simp),List.countP_cons_of_pos (by simp[hs]),he]
      · have hm2 : x ∈ L := by
          rcases List.mem_cons.1 hm with q|q
          · exact absurd q.symm e
          · exact q
        have:=ih hn.2 hm2;by_cases c:Sn a=true
        · rw[List.countP_cons_of_neg (by simp[c]),List.countP_cons_of_neg (by simp[c])];exact this
        · rw[List.countP_cons_of_pos (by simp[c,e]),List.countP_cons_of_pos (by simp[c])];omega
  exact aux _ List.nodup_range (List.mem_range.2 hx)
structure SR (w5:World) (G n:Nat) (Sn:Nat->Bool) (L:List Int) (v:Value) (W:World):Prop where
 ab:Ab w5 G n Sn W
 ow:OwI w5.heap.size W v L
theorem SR.kb(h:SR w5 G n Sn L v W)(k:Kb 0 W W'):SR w5 G n Sn L v W':=⟨h.ab.kb k,h.ow.kb k⟩
theorem SR.mark(h:SR w5 G n Sn L v W)(hx:x<n):SR w5 G n (λk=>if k=x then true else Sn k) L v (W.setCell ⟨G,x,none⟩ (.bool true)):=by
 refine⟨h.ab.set hx (λj _=>rfl),rowBlk' h.ow (λg e=>Below.heap_setCell _ _ _ _ ?_)⟩;have h1:=(h.ow.lt g e).1;have h2:=h.ab.gl;show g≠G;omega
theorem SR.app(h:SR w5 G n Sn L v W){m:Nat}{x:Int}(hm:m=L.length+1)(h1:w7.ownsRow w5.heap.size 3 1 v' m (iv L++[.int .i64 x]))(h2:(W.alloc E).grownBy w7 v.ownBlock):SR w5 G n Sn (L++[x]) v' w7:=by
 have hA:=h.ab;have hg:∀g,v.ownBlock=some g->w5.heap.size<=g:=λg e=>(h.ow.lt g e).1;have hbl:∀b,b<w5.heap.size->w7.heap[b]? =W.heap[b]?:=λb hb=>(h2.block b (by rw[World.size_alloc];have:=hA.size;omega) (λe=>by have:=hg b e.symm;omega)).trans ((kb_alloc 0 W E).block b zq (by have:=hA.size;omega));have hs:=h2.size;rw[World.size_alloc]at hs;refine⟨⟨h2.os.trans hA.os,h2.output.trans hA.output,by have:=hA.size;omega,λb hb hne=>(hbl b hb).trans (hA.block b hb hne),λk hk=>(World.cell?_of_block (hbl G hA.gl)).trans (hA.ce k hk),λj=>(World.frozen?_of_block (hbl G hA.gl)).trans (hA.fz j),hA.gl⟩,owi_app hm h1⟩
theorem sp_round(w:World)(hrow:RowI 0 w (.slice pn d.n cn) d.n d.N)(h0:x0<d.n)(hn:d.n<=6000)(hx:IsSl vu/\IsSl vc/\IsSl vd)(hI:∀i,i<d.n->Iok np d i):
  Calls Tryz.prog 31 #[.agg #[.string d.x,.int .i64 d.l,.int .i64 d.m,.bool d.r,.int .i64 d.g,vu,vc,.slice pn d.n cn,vd],.int .i64 x0] w λe w'=>e=.returned (.bool (dc (Cy (Es d) x0)))/\Kb 0 w w':=by
 have hSIL:∀W,Kb 0 w W->∀x,x<d.n->Calls Tryz.prog 61 #[.agg #[.string d.x,.int .i64 d.l,.int .i64 d.m,.bool d.r,.int .i64 d.g,vu,vc,.slice pn d.n cn,vd],.int .i64 x] W (SlA (d.N x) x W):=λW k x hx'=>sp_silent W (hrow.keep k) hx' (by omega) hx;obtain⟨⟨a1,b1,c1,rfl⟩,⟨a2,b2,c2,rfl⟩,⟨a3,b3,c3,rfl⟩⟩:=hx;have HSIL:Hid (∀W,Kb 0 w W->∀x,x<d.n->Calls Tryz.prog 61 #[.agg #[.string d.x,.int .i64 d.l,.int .i64 d.m,.bool d.r,.int .i64 d.g,.slice a1 b1 c1,.slice a2 b2 c2,.slice pn d.n cn,.slice a3 b3 c3],.int .i64 x] W (SlA (d.N x) x W)):=hSIL;obtain⟨R,hR⟩:∃R,R=dc (Cy (Es d) x0):=⟨_,rfl⟩
 rw[<-hR];have HR:Hid (R=dc (Cy (Es d) x0)):=hR;have HI:Hid ((∀i,i<d.n->Iok np d i)/\x0<d.n/\d.n<=6000):=(⟨hI,h0,hn⟩:_/\_)
 have nI:(d.n:Int)<=6000:=by omega
 obtain⟨w4,hw4⟩:∃w4,w4=w.alloc (.cells #[.string d.x,.int .i64 d.l,.int .i64 d.m,.bool d.r,.int .i64 d.g,.slice a1 b1 c1,.slice a2 b2 c2,.slice pn d.n cn,.slice a3 b3 c3] 52):=⟨_,rfl⟩
 have k4:Kb 0 w w4:=by rw[hw4];exact kb_alloc _ _ _
 have hbx:w4.heap[w.heap.size]? =some (.cells #[.string d.x,.int .i64 d.l,.int .i64 d.m,.bool d.r,.int .i64 d.g,.slice a1 b1 c1,.slice a2 b2 c2,.slice pn d.n cn,.slice a3 b3 c3] 52 (0,0)):=by rw[hw4];exact alloc_new _ _ _
 have hs4:w4.heap.size=w.heap.size+1:=by rw[hw4];exact World.size_alloc _ _
 have hmk:=run_make (P:=Tryz.prog) w4 75 4 Tryz.t4 (.bool false) Tryz.underlying75 (by kernel_rfl) (by kernel_rfl) .i64 .i64 (d.n:Int) (d.n:Int) (by omega) (Int.le_refl _) (by show(1:Int)*(d.n:Int)<=_;omega) (by omega);rw[Int.toNat_natCast]at hmk;obtain⟨w5,hw5⟩:∃w5,w5=w4.alloc (.cells (madeCells (.bool false:Value).cells (d.n*1)) 4):=⟨_,rfl⟩
 have hmk2:=hmk;rw[show d.n*Tryz.t4.size=d.n*1 from rfl,<-hw5]at hmk2;obtain⟨G,hG⟩:∃G,G=w4.heap.size:=⟨_,rfl⟩
 rw[<-hG]at hmk2;have hA0:Ab w5 G d.n (λ_=>false) w5:=by rw[hG,hw5];exact ab_zero w4 d.n 4
 have k5:Kb 0 w w5:=k4.trans (by rw[hw5];exact kb_alloc _ _ _);have hb5:w5.heap[w.heap.size]? =some (.cells #[.string d.x,.int .i64 d.l,.int .i64 d.m,.bool d.r,.int .i64 d.g,.slice a1 b1 c1,.slice a2 b2 c2,.slice pn d.n cn,.slice a3 b3 c3] 52 (0,0)):=by rw[hw5];exact((kb_alloc 0 w4 _).block _ zq (by omega)).trans hbx
 have HG:Hid (Ab w5 G d.n (λ_=>false) w5/\Kb 0 w w5/\w5.heap[w.heap.size]? =some (.cells #[.string d.x,.int .i64 d.l,.int .i64 d.m,.bool d.r,.int .i64 d.g,.slice a1 b1 c1,.slice a2 b2 c2,.slice pn d.n cn,.slice a3 b3 c3] 52 (0,0))/\w.heap.size<G/\w.heap.size<w5.heap.size):=(⟨hA0,k5,hb5,by omega,by have:=hA0.gl;omega⟩:_/\_)
 have z7:w4.cell? ⟨w.heap.size,7,none⟩=some (.slice pn d.n cn):=cell_of hbx rfl;have hbx5:=hb5;clear hbx;have hbx:=hb5;have y0:w5.cell? ⟨w.heap.size,0,none⟩=some (.string d.x):=cell_of hbx rfl;have y1:w5.cell? ⟨w.heap.size,1,none⟩=some (.int .i64 d.l):=cell_of hbx rfl;have y2:w5.cell? ⟨w.heap.size,2,none⟩=some (.int .i64 d.m):=cell_of hbx rfl;have y3:w5.cell? ⟨w.heap.size,3,none⟩=some (.bool d.r):=cell_of hbx rfl;have y4:w5.cell? ⟨w.heap.size,4,none⟩=some (.int .i64 d.g):=cell_of hbx rfl;have y5:w5.cell? ⟨w.heap.size,5,none⟩=some (.slice a1 b1 c1):=cell_of hbx rfl;have y6:w5.cell? ⟨w.heap.size,6,none⟩=some (.slice a2 b2 c2):=cell_of hbx rfl;have y7:w5.cell? ⟨w.heap.size,7,none⟩=some (.slice pn d.n cn):=cell_of hbx rfl;have y8:w5.cell? ⟨w.heap.size,8,none⟩=some (.slice a3 b3 c3):=cell_of hbx rfl;have HC5:=hSIL w5 k5 x0 h0;have HW4:Hid (w4=_):=hw4;rw[hw4]at hmk2 z7;clear hR hw4 k4 hs4 hmk hw5 hG hA0 k5 hb5 hbx5 hbx hrow hSIL hI h0 hn;go_enter Tryz.func31,Tryz.ntmps31;go_wp2_with (go_at_call 61;refine HC5.mono ?_;rintro e w6 ⟨v,rfl,hO,k6⟩;obtain⟨ad,cap,rfl⟩:=own_shape hO;have HO:Hid (OwI w5.heap.size w6 (.slice ad (slt (d.N x0) x0).length cap) (slt (d.N x0) x0)/\Kb 0 w5 w6):=(⟨hO,k6⟩:_/\_);clear hO k6 HC5 hmk2 z7 y0 y1 y2 y3 y4 y5 y6 y7 y8)
 go_loopw [6,7] (λs6 s7 wr=>∃(i:Nat) (v:Value),v=s6/\s7=.int .i64 i/\Hid (∃(Sn:Nat->Bool) (L:List Int),SI d x0 Sn L i/\SR w5 G d.n Sn L v wr/\L.length+2*unsB Sn d.n<=2*d.n+2)) (λs6 s7 wr=>3*uns wr G d.n+(match s6 with|.slice _ l _=>l|_=>0)-(intOf s7).toNat)
 case atStart=>
  refine⟨0,_,rfl,rfl,?_⟩;obtain⟨hA0,k5,hb5,hG1,hG2⟩:=(uh HG)
  obtain⟨hO,k6⟩:=(uh HO)
  obtain⟨hI,h0,hn⟩:=(uh HI)
  refine⟨λ_=>false,slt (d.N x0) x0,si_start hI h0,⟨hA0.kb k6,hO⟩,?_⟩;have:=slt_len (d.N x0) x0;have h2:unsB (λ_=>false) d.n<=d.n:=by unfold unsB;exact Nat.le_trans List.countP_le_length (by simp)
  omega
 case round=>
  obtain⟨i,v,rfl,rfl,HX⟩:=hrel;clear HO;obtain⟨Sn,L,hS,hM,hlen⟩:=(uh HX)
  clear HX;obtain⟨hA0,k5,hb5,hG1,hG2⟩:=(uh HG)
  obtain⟨hI,h0,hn⟩:=(uh HI)
  obtain⟨ad,cap,rfl⟩:=own_shape hM.ow;have kw:Kb 0 w wr:=hM.ab.old k5 (by omega);have hll:L.length<=12002:=by omega
  have lI:(L.length:Int)<=12002:=by omega
  rcases Nat.lt_or_ge i L.length with h|h
  ·have iI:(i:Int)<(L.length:Int):=by omega
   obtain⟨y,hy⟩:∃y,L[i]? =some y:=⟨_,List.getElem?_eq_getElem h⟩
   obtain⟨x,rfl,hxn,-⟩:=hS.rc y (List.mem_of_getElem? hy);obtain⟨pL,cL,eL,hcL,rL⟩:=hM.ow.rz;obtain⟨aL,e1,-,rL2⟩:=rL (by omega);obtain⟨rfl,rfl⟩:ad=pL/\cap=cL:=by simpa using eL
   subst e1;have cy:=rL2 i _ hy;have xI:(x:Int)<(d.n:Int):=by omega
   by_cases hx0:x=x0
   ·subst hx0;have hT:R=true:=by rw[(uh HR)];exact dc_t (hS.found hy)
    subst hT;have HK:Hid (Kb 0 w wr):=kw;clear hS hM hlen hA0 k5 hb5 hG1 hG2 hI h0 hn kw hll hy eL rL rL2 hcL HR;go_wp2_with fail;go_ret;exact⟨rfl,HK⟩
   have gx:=bne (show(x:Int)≠(x0:Int) by omega);have cs:=hM.ab.ce x hxn;cases hsx:Sn x with
   |true=>
    rw[hsx]at cs;have HN:Hid (∃(Sn:Nat->Bool) (L':List Int),SI d x0 Sn L' (i+1)/\SR w5 G d.n Sn L' (.slice (some aL) L.length cap) wr/\L'.length+2*unsB Sn d.n<=2*d.n+2):=⟨Sn,L,hS.seen hy hx0 hsx,hM,hlen⟩
    clear hS hM hlen hA0 k5 hb5 hG1 hG2 hI h0 hn kw hll hy eL rL rL2 hcL hsx hx0;go_wp2_with fail;go_roundw
    case rel=>exact⟨i+1,_,rfl,by go_num,HN⟩
    case measure=>simp[intOf];omega
   |false=>
    rw[hsx]at cs;have fx:=hM.ab.fz x;obtain⟨w6,hw6⟩:∃w6,w6=wr.setCell ⟨G,x,none⟩ (.bool true):=⟨_,rfl⟩
    have hM6:=hM.mark hxn;rw[<-hw6]at hM6;have kw6:Kb 0 w w6:=hM6.ab.old k5 (by omega);have hbx:=(hM6.ab.block w.heap.size hG2 (by omega)).trans hb5;have y0:w6.cell? ⟨w.heap.size,0,none⟩=some (.string d.x):=cell_of hbx rfl;have y1:w6.cell? ⟨w.heap.size,1,none⟩=some (.int .i64 d.l):=cell_of hbx rfl;have y2:w6.cell? ⟨w.heap.size,2,none⟩=some (.int .i64 d.m):=cell_of hbx rfl;have y3:w6.cell? ⟨w.heap.size,3,none⟩=some (.bool d.r):=cell_of hbx rfl;have y4:w6.cell? ⟨w.heap.size,4,none⟩=some (.int .i64 d.g):=cell_of hbx rfl;have y5:w6.cell? ⟨w.heap.size,5,none⟩=some (.slice a1 b1 c1):=cell_of hbx rfl;have y6:w6.cell? ⟨w.heap.size,6,none⟩=some (.slice a2 b2 c2):=cell_of hbx rfl;have y7:w6.cell? ⟨w.heap.size,7,none⟩=some (.slice pn d.n cn):=cell_of hbx rfl;have y8:w6.cell? ⟨w.heap.size,8,none⟩=some (.slice a3 b3 c3):=cell_of hbx rfl;have HC6:=(uh HSIL) w6 kw6 x hxn;have hun:=unsB_set hxn hsx;have hmu:=hM.ab.uns;have HW6:Hid (w6=_):=hw6;have HPR:Hid (SI d x0 (λk=>if k=x then true else Sn k) (L++slt (d.N x) x) (i+1)/\SR w5 G d.n (λk=>if k=x then true else Sn k) L (.slice (some aL) L.length cap) w6/\L.length+2*unsB Sn d.n<=2*d.n+2/\unsB (λk=>if k=x then true else Sn k) d.n+1=unsB Sn d.n/\uns wr G d.n=unsB Sn d.n/\d.n<=6000/\i<L.length):=(⟨hS.new hI hy hxn hx0,hM6,hlen,hun,hmu,hn,h⟩:_/\_)
    obtain⟨nL,hnL⟩:∃nL,nL=L.length:=⟨_,rfl⟩
    have HNL:Hid (nL=L.length):=hnL;clear hS hM hlen hA0 k5 hb5 hG1 hG2 hI h0 hn kw hll hy eL rL rL2 hcL hsx hx0 hM6 hw6 kw6 hbx hun hmu hnL h;go_upto_region 11 with fail;rw[<-(uh HW6)];clear HW6 cs fx cy;go_wp2_with (go_at_call 61;refine HC6.mono ?_;rintro e w7 ⟨v,rfl,hO,k7⟩;obtain⟨ad2,cap2,rfl⟩:=own_shape hO;have HO:Hid (OwI w6.heap.size w7 (.slice ad2 (slt (d.N x) x).length cap2) (slt (d.N x) x)/\Kb 0 w6 w7):=(⟨hO,k7⟩:_/\_);clear hO k7 HC6 y0 y1 y2 y3 y4 y5 y6 y7 y8);have HL2:Hid ((slt (d.N x) x).length<=2):=slt_len _ _;have tI:((slt (d.N x) x).length:Int)<=2:=by have:=(uh HL2);omega
    go_loopw [6,43] (λs6 s43 wz=>∃(t:Nat) (v:Value),v=s6/\s43=.int .i64 t/\t<=(slt (d.N x) x).length/\Hid (SR w5 G d.n (λk=>if k=x then true else Sn k) (L++(slt (d.N x) x).take t) v wz/\OwI w6.heap.size wz (.slice ad2 (slt (d.N x) x).length cap2) (slt (d.N x) x)/\w7.heap.size<=wz.heap.size/\(∀g,v.ownBlock=some g->∀g',(Value.slice ad2 (slt (d.N x) x).length cap2).ownBlock=some g'->g≠g'))) (λ_ s43 _=>(slt (d.N x) x).length-(intOf s43).toNat)
    case atStart=>
     refine⟨0,_,rfl,rfl,Nat.zero_le _,?_⟩;obtain⟨hO,k7⟩:=(uh HO)
     have hP:=(uh HPR)
     refine And.intro ?_ (And.intro hO (And.intro (Nat.le_refl _) ?_))
     ·rw[List.take_zero,List.append_nil];exact hP.2.1.kb k7
     ·intro g e g' e';have h1:=(hP.2.1.ow.lt g e).2;have h2:=(hO.lt g' e').1;omega
    case round=>
     obtain⟨t,v,rfl,rfl,ht,HT⟩:=hrel
     rename World=>wz
     clear HO;obtain⟨hM,hO,hs7,hne⟩:=(uh HT)
     clear HT;obtain⟨ad3,cap3,hv3⟩:=own_shape hM.ow;have hP:=(uh HPR)
     have hlt:(L++(slt (d.N x) x).take t).length=L.length+t:=by rw[List.length_append,List.length_take];omega
     rcases Nat.lt_or_ge t (slt (d.N x) x).length with h|h
     ·have tI2:(t:Int)<((slt (d.N x) x).length:Int):=by omega
      obtain⟨z,hz⟩:∃z,(slt (d.N x) x)[t]? =some z:=⟨_,List.getElem?_eq_getElem h⟩
      obtain⟨p2,q2,e2,-,r2⟩:=hO.rz;obtain⟨a2',e3,-,r3⟩:=r2 (by omega);obtain⟨rfl,rfl⟩:ad2=p2/\cap2=q2:=by simpa using e2
      subst e3;have cz:=r3 t z hz;obtain⟨m,hm⟩:∃m,m=L.length+t:=⟨_,rfl⟩
      rw[hlt,<-hm]at hv3
      have howna:∀o,(wz.alloc o).ownsRow w5.heap.size 3 1 v m (iv (L++(slt (d.N x) x).take t)):=λo=>by
       have:=World.ownsRow.alloc hM.ow o;rw[hlt,<-hm]at this;exact this
      have hqc:=qr_cells wz #[.int .i64 z] 3 [.int .i64 z] rfl;have h1c:∀u ∈ ([.int .i64 z]:List Value),u.oneCell'=true:=by intro u hu;simp at hu;subst hu;rfl
      have hs5z:w5.heap.size<=wz.heap.size:=hM.ab.size
      have hmI:(m:Int)<=20000:=by
       have:=hP.2.2.1;have:=(uh HL2)
       omega
      have HSTP:Hid (∀(E:Obj) (g c':Nat) (w8:World),w8.ownsRow w5.heap.size 3 1 (.slice (some ⟨g,0,none⟩) (m+1) c') (m+1) (iv (L++(slt (d.N x) x).take t)++[.int .i64 z])->(wz.alloc E).grownBy w8 v.ownBlock->(v.ownBlock=some g\/g=wz.heap.size+1)->SR w5 G d.n (λk=>if k=x then true else Sn k) (L++(slt (d.N x) x).take (t+1)) (.slice (some ⟨g,0,none⟩) (m+1) c') w8/\OwI w6.heap.size w8 (.slice (some a2') (slt (d.N x) x).length cap2) (slt (d.N x) x)/\w7.heap.size<=w8.heap.size/\(∀g1,(Value.slice (some ⟨g,0,none⟩) (m+1) c').ownBlock=some g1->∀g',(Value.slice (some a2') (slt (d.N x) x).length cap2).ownBlock=some g'->g1≠g')):=(λE g c' w8 h1 h2 h3=>by
       have hb:=h2.size;rw[World.size_alloc]at hb;refine⟨?_,?_,by omega,?_⟩
       ·rw[take_app _ t z hz,<-List.append_assoc];exact hM.app (by rw[hlt,hm]) h1 h2
       ·refine rowBlk' hO (λg' e=>?_);have hl:=(hO.lt g' e).2;exact(h2.block g' (by rw[World.size_alloc];omega) (λq=>hne g' q.symm g' e rfl)).trans ((kb_alloc 0 wz E).block g' zq hl)
       ·intro g1 e1 g' e' e9;have eg:g=g1:=by simpa [Value.ownBlock]using e1
        subst eg;rcases h3 with h3|h3
        ·exact hne g h3 g' e' e9
        ·have:=(hO.lt g' e').2
         omega:∀(E:Obj),_)
      subst hv3;obtain⟨i0,hi0,hz0,hzs,hzb⟩:=info_parts infoI;have HI0:Hid (Tryz.prog.info? 3=some i0):=hi0;clear hi0;clear hM hO hne r2 r3 e2 hlt hz hm hP;go_wp2_with (at_builtin;refine wpList_append_lies _ rfl (.tmp 47) (.tmp 49) 53 rfl w5.heap.size 3 i0 (.int .i64 0) 1 8 Tryz.underlying53 HI0 hz0 hzs hzb rfl (by decide) _ _ _ rfl (howna _) ⟨wz.heap.size,0,none⟩ 1 1 [.int .i64 z] rfl rfl hqc h1c (by decide) (by unfold maxLen;omega) (by omega) (by rw[World.size_alloc];omega) (wz.heap.size+1) (by simp) ?_;intro g cap' w8 hown3 hgr3 hl3 _;have HN:Hid _:=(uh HSTP) _ _ _ _ hown3 hgr3 hl3;clear hown3 hgr3 hl3 howna hqc h1c HSTP);go_roundw
      case rel=>exact⟨t+1,_,rfl,by go_num,by omega,HN⟩
      case measure=>simp[intOf];omega
     ·have tI2:¬(t:Int)<((slt (d.N x) x).length:Int):=by omega
      have et:(slt (d.N x) x).take t=slt (d.N x) x:=List.take_of_length_le h;rw[et]at hM hlt;have hl2:=(uh HL2)
      have HN:Hid (∃(Sn:Nat->Bool) (L':List Int),SI d x0 Sn L' (i+1)/\SR w5 G d.n Sn L' v wz/\L'.length+2*unsB Sn d.n<=2*d.n+2):=⟨_,_,hP.1,hM,by rw[List.length_append];have:=hP.2.2.1;have:=hP.2.2.2.1;omega⟩
      have hmu2:=hM.ab.uns;rw[List.length_append]at hlt hv3
      have HME:Hid (3*uns wz G d.n+(L.length+(slt (d.N x) x).length)-(i+1)<3*uns wr G d.n+nL-i):=by
       show _<_;have e1:=hP.2.2.2.1;have e2:=hP.2.2.2.2.1;have e3:=(uh HNL)
       have e4:=hP.2.2.2.2.2.2;rw[hmu2,e2,e3];omega
      have HNL2:=(uh HNL)
      subst hv3;clear hM hO hne hs7 et hlt hl2 hP hmu2;go_wp2_with fail;go_roundw
      case rel=>exact⟨i+1,_,rfl,by go_num,HN⟩
      case measure=>
       have h9:=(uh HME)
       rw[HNL2]at h9;simp[intOf];omega
  ·have iI:¬(i:Int)<(L.length:Int):=by omega
   have hiL:i=L.length:=by have:=hS.le;omega
   have hF:R=false:=by
    rw[(uh HR)];rw[hiL]at hS;exact dc_f hS.none
   subst hF;have HK:Hid (Kb 0 w wr):=kw;clear hS hM hlen hA0 k5 hb5 hG1 hG2 hI h0 hn kw hll HR hiL;go_wp2_with fail;go_ret;exact⟨rfl,HK⟩
theorem infoN:(Tryz.prog.info? 89).map (λi=>(i.zero,i.size,i.bytes))=some (some (.agg #[.int .i64 0,.bool false,.slice none 0 0,.slice none 0 0]),4,64):=by kernel_rfl
abbrev Nz:=Nat×Value×Value
def nx4(z:Nz):List Value:=[.int .i64 z.1,.bool true,z.2.1,z.2.2]
def FoE(av:Nat->Prop)(W:World)(z:Nz)(x:Nat×Sv):Prop:=z.1=x.1/\Rz av W z.2.1 x.2.1/\Rg av W z.2.2 x.2.2
def FoR(av:Nat->Prop)(base:Nat)(W:World)(v:Value)(l:List (Nat×Sv)):Prop:=∃Z:List Nz,W.ownsRow base 89 4 v Z.length (Z.flatMap nx4)/\Z.length=l.length/\∀(j:Nat) (z:Nz) (x:Nat×Sv),Z[j]? =some z->l[j]? =some x->FoE av W z x
def FoA(av:Nat->Prop)(l:List (Nat×Sv))(w:World)(e:Ending)(w':World):Prop:=∃v,e=.returned v/\FoR av w.heap.size w' v l/\Kb 0 w w'
theorem FoE.on{z:Nz}{x:Nat×Sv}(h:FoE av W z x)(k:∀b,av b->b<W.heap.size->W'.heap[b]? =W.heap[b]?):FoE av W' z x:=⟨h.1,h.2.1.on k,h.2.2.on k⟩
theorem for_nil(av:Nat->Prop)(base:Nat)(W:World):FoR av base W (.slice none 0 0) []:=⟨[],World.ownsRow_nil _ _ _ _,rfl,λj z x h=>by simp at h⟩
theorem FoE.imp{z:Nz}{x:Nat×Sv}(h:FoE av W z x)(k:∀b,b<W.heap.size->av b->bv b):FoE bv W z x:=⟨h.1,h.2.1.imp k,h.2.2.imp k⟩
theorem for_one{z:Nz}{x:Nat×Sv}(hx:FoE av W z x)(h1:w7.ownsRow base 89 4 v' 1 (nx4 z))(h2:(W.alloc E).grownBy w7 none):FoR av base w7 v' [x]:=by
 have hk:∀b,av b->b<W.heap.size->w7.heap[b]? =W.heap[b]?:=λb hb hlt=>(h2.block b (by rw[World.size_alloc];omega) (λe=>by cases e)).trans ((kb_alloc 0 W E).block b zq hlt);refine⟨[z],by simpa using h1,rfl,λj z' x' h3 h4=>?_⟩
 have e:j=0:=by
  have:=(List.getElem?_eq_some_iff.1 h3).1;simp at this;exact this
 subst e;simp at h3 h4;subst h3 h4;exact hx.on hk
theorem for_two{z1 z2:Nz}{x1 x2:Nat×Sv}(e1:FoE av W z1 x1)(e2:FoE av W z2 x2)(hne:∀b,av b->b<W.heap.size->some b≠v.ownBlock)(h1:w7.ownsRow base 89 4 v' 2 (nx4 z1++nx4 z2))(h2:(W.alloc E).grownBy w7 v.ownBlock):FoR av base w7 v' [x1,x2]:=by
 have hk:∀b,av b->b<W.heap.size->w7.heap[b]? =W.heap[b]?:=λb hb hlt=>(h2.block b (by rw[World.size_alloc];omega) (hne b hb hlt)).trans ((kb_alloc 0 W E).block b zq hlt);refine⟨[z1,z2],by simpa using h1,rfl,λj z' x' h3 h4=>?_⟩
 have e:j=0\/j=1:=by
  have:=(List.getElem?_eq_some_iff.1 h3).1;simp at this;omega
 rcases e with rfl|rfl
 ·simp at h3 h4;subst h3 h4;exact e1.on hk
 ·simp at h3 h4;subst h3 h4;exact e2.on hk
theorem FoR.imp{l:List (Nat×Sv)}(h:FoR av base W v l)(k:∀b,b<W.heap.size->av b->bv b):FoR bv base W v l:=by
 obtain⟨Z,h1,h2,h3⟩:=h;exact⟨Z,h1,h2,λj z x a b=>(h3 j z x a b).imp k⟩
theorem fo_41{vt0 vg0 vt1 vg1:Value}{s:Sv}{G:List Gv}{o oa ob oc od:Int}(w:World)(hrow:RowI 0 w (.slice pn d.n cn) d.n d.N)(hi:i<d.n)(hn:d.n<=1048576)(hx:IsSl vu/\IsSl vc/\IsSl vd)(ha:d.N i=⟨o,oa,ob,oc,od⟩)(r0:Rz av w vt0 s.1)(r1:Rg av w vg0 s.2)(r2:Rz av w vt1 T)(r3:Rg av w vg1 G)(hav:∀k,w.heap.size<=k->av k)(hlen:s.1.length<=250/\T.length=s.1.length)(h:o=41)(hj:0<=ob)(hc:0<=oc/\oc<(s.1.length:Int))(h41:(T.set oc.toNat (s.1.getD oc.toNat 0),G)=s):
  Calls Tryz.prog 38 #[.agg #[.string d.x,.int .i64 d.l,.int .i64 d.m,.bool d.r,.int .i64 d.g,vu,vc,.slice pn d.n cn,vd],.int .i64 i,.agg #[.bool true,vt0,vg0],vt1,vg1] w (FoA av (fol (d.N i) i s T G) w):=by
 subst h;obtain⟨j,hjj⟩:∃j:Nat,ob=(j:Int):=⟨ob.toNat,by omega⟩
 obtain⟨kc,hkc⟩:∃k:Nat,oc=(k:Int):=⟨oc.toNat,by omega⟩
 rw[hjj,hkc]at ha;rw[hkc]at h41 hc;rw[show((kc:Int)).toNat=kc from rfl]at h41;obtain⟨⟨a1,b1,c1,rfl⟩,⟨a2,b2,c2,rfl⟩,⟨a3,b3,c3,rfl⟩⟩:=hx;obtain⟨pn',cn',ee,hr2⟩:=hrow;obtain⟨rfl,rfl⟩:pn=pn'/\cn=cn':=by simpa using ee
 obtain⟨p,rfl,hcp,-,hrb⟩:=hr2 (by omega);obtain⟨pt0,ct0,e0,-⟩:=id r0;obtain⟨pg0,cg0,e1,-⟩:=id r1;obtain⟨pt1,ct1,e2,-⟩:=id r2;obtain⟨pg1,cg1,e3,-⟩:=id r3;subst e0 e1 e2 e3;have hci:=hrb i hi;rw[ha]at hci;obtain⟨q0,q1,q2,q3,q4⟩:=CelI.keep (c:=0) hci zq (kb_alloc2 0 w (.cells #[.string d.x,.int .i64 d.l,.int .i64 d.m,.bool d.r,.int .i64 d.g,.slice a1 b1 c1,.slice a2 b2 c2,.slice (some p) d.n cn,.slice a3 b3 c3] 52) (.cells #[.bool true,.slice pt0 s.1.length ct0,.slice pg0 s.2.length cg0] 58));have iI:(i:Int)<(d.n:Int):=by omega
 have nI:(d.n:Int)<=1048576:=by omega
 obtain⟨w3,hw3⟩:∃w3,w3=((w.alloc (.cells #[.string d.x,.int .i64 d.l,.int .i64 d.m,.bool d.r,.int .i64 d.g,.slice a1 b1 c1,.slice a2 b2 c2,.slice (some p) d.n cn,.slice a3 b3 c3] 52)).alloc (.cells #[.bool true,.slice pt0 s.1.length ct0,.slice pg0 s.2.length cg0] 58)).alloc (.cells #[.int .i64 41,.int .i64 oa,.int .i64 j,.int .i64 kc,.int .i64 od] 79):=⟨_,rfl⟩
 obtain⟨t0,t1,t2,ts,k3⟩:=three_new w _ _ _ _ _ _ w3 hw3;obtain⟨w4,hw4⟩:∃w4,w4=w3.alloc (.cells #[.bool true,.slice pt1 T.length ct1,.slice pg1 G.length cg1] 58):=⟨_,rfl⟩
 have k34:Kb 0 w3 w4:=by rw[hw4];exact kb_alloc _ _ _
 have k4:=k3.trans k34;have hs4:w4.heap.size=w.heap.size+4:=by rw[hw4,World.size_alloc,ts]
 have t3:w4.heap[w.heap.size+3]? =some (.cells #[.bool true,.slice pt1 T.length ct1,.slice pg1 G.length cg1] 58 (0,0)):=by rw[hw4,<-ts];exact alloc_new _ _ _
 have t2':=(k34.block _ zq (by omega)).trans t2;have t1':=(k34.block _ zq (by omega)).trans t1;have HBL:Hid (w4.heap[w.heap.size+1]? =some (.cells #[.bool true,.slice pt0 s.1.length ct0,.slice pg0 s.2.length cg0] 58 (0,0))/\w4.heap[w.heap.size+1+1]? =some (.cells #[.int .i64 41,.int .i64 oa,.int .i64 j,.int .i64 kc,.int .i64 od] 79 (0,0))/\w4.heap[w.heap.size+3]? =some (.cells #[.bool true,.slice pt1 T.length ct1,.slice pg1 G.length cg1] 58 (0,0))/\w4.heap.size=w.heap.size+4/\Kb 0 w w4):=(⟨t1',t2',t3,hs4,k4⟩:_/\_)
 have d0:w4.cell? ⟨w.heap.size+1+1,0,none⟩=some (.int .i64 41):=cell_of t2' rfl;have d1:w4.cell? ⟨w.heap.size+1+1,1,none⟩=some (.int .i64 oa):=cell_of t2' rfl;have d2:w4.cell? ⟨w.heap.size+1+1,2,none⟩=some (.int .i64 j):=cell_of t2' rfl;have d3:w4.cell? ⟨w.heap.size+1+1,3,none⟩=some (.int .i64 kc):=cell_of t2' rfl;have f0:w4.cell? ⟨w3.heap.size,0,none⟩=some (.bool true):=by rw[ts];exact cell_of t3 rfl
 have f1:w4.cell? ⟨w3.heap.size,1,none⟩=some (.slice pt1 T.length ct1):=by rw[ts];exact cell_of t3 rfl
 have f2:w4.cell? ⟨w3.heap.size,2,none⟩=some (.slice pg1 G.length cg1):=by rw[ts];exact cell_of t3 rfl
 obtain⟨s3,hs3⟩:∃s3,s3=w3.heap.size:=⟨_,rfl⟩
 rw[<-hs3]at f0 f1 f2;have HS3:Hid (s3=w3.heap.size/\w3.heap.size=w.heap.size+3):=(⟨hs3,ts⟩:_/\_)
 have HW3:Hid (w3=_):=hw3;have HW4:Hid (w4=_):=hw4;have h4w:w.heap.size<=w4.heap.size:=by omega
 have E1:FoE (λk=>av k/\k<w.heap.size) w4 (i+1,.slice pt1 T.length ct1,.slice pg1 G.length cg1) (i+1,(T,G)):=⟨rfl,(r2.imp (λb hb h=>⟨h,hb⟩)).kb k4,(r3.imp (λb hb h=>⟨h,hb⟩)).kb k4⟩
 have H41:Hid ((T.set kc (s.1.getD kc 0),G)=s/\kc<s.1.length):=(⟨h41,by omega⟩:_/\_)
 have HAV:Hid ((∀k,w.heap.size<=k->av k)/\d.N i=⟨41,oa,(j:Int),(kc:Int),od⟩/\s.1.length<=250/\T.length=s.1.length):=(⟨hav,ha,hlen⟩:_/\_)
 have HRR:Hid (Rz av w (.slice pt0 s.1.length ct0) s.1/\Rg av w (.slice pg0 s.2.length cg0) s.2/\Rz av w (.slice pt1 T.length ct1) T/\Rg av w (.slice pg1 G.length cg1) G):=(⟨r0,r1,r2,r3⟩:_/\_)
 have HSTP:Hid (∀(E:Obj) (g c':Nat) (w7:World),w7.ownsRow w.heap.size 89 4 (.slice (some ⟨g,0,none⟩) (0+1) c') (0+1) ([]++[.int .i64 ((i:Int)+1),.bool true,.slice pt1 T.length ct1,.slice pg1 G.length cg1])->(w4.alloc E).grownBy w7 (Value.slice none 0 0).ownBlock->Kb 0 w4 w7/\w7.ownsRow w.heap.size 89 4 (.slice (some ⟨g,0,none⟩) 1 c') 1 (nx4 (i+1,.slice pt1 T.length ct1,.slice pg1 G.length cg1))/\FoE (λk=>av k/\k<w.heap.size) w7 (i+1,.slice pt1 T.length ct1,.slice pg1 G.length cg1) (i+1,(T,G))/\FoR av w.heap.size w7 (.slice (some ⟨g,0,none⟩) 1 c') [(i+1,(T,G))]):=(λE g c' w7 h1 h2=>by
  have h1':w7.ownsRow w.heap.size 89 4 (.slice (some ⟨g,0,none⟩) 1 c') 1 (nx4 (i+1,.slice pt1 T.length ct1,.slice pg1 G.length cg1)):=by simpa [nx4]using h1
  have k7:Kb 0 w4 w7:=(kb_alloc 0 w4 E).gr h2 (λg e=>by cases e)
  exact⟨k7,h1',⟨rfl,E1.2.1.kb k7,E1.2.2.kb k7⟩,for_one (E1.imp (λb _ h=>h.1)) h1' h2⟩:∀(E:Obj),_)
 have hqc:=qr_cells w4 #[.int .i64 ((i:Int)+1),.bool true,.slice pt1 T.length ct1,.slice pg1 G.length cg1] 89 [.int .i64 ((i:Int)+1),.bool true,.slice pt1 T.length ct1,.slice pg1 G.length cg1] rfl;have h1c:∀u ∈ ([.int .i64 ((i:Int)+1),.bool true,.slice pt1 T.length ct1,.slice pg1 G.length cg1]:List Value),u.oneCell'=true:=by intro u hu;simp at hu;rcases hu with rfl|rfl|rfl|rfl<;>rfl
 clear E1;obtain⟨i0,hi0,hz0,hzs,hzb⟩:=info_parts infoN;have HI0:Hid (Tryz.prog.info? 89=some i0):=hi0;clear hi0;clear hw3 hw4 t0 t1 t2 ts k3 k34 hs4 t3 t2' t1' hr2 hrb hci hcp ee hi hn hs3 k4 r0 r1 r2 r3 ha hav hlen;go_enter Tryz.func38,Tryz.ntmps38;go_upto_region 3 with fail;rw[<-(uh HW3)];go_upto_region 4 with fail;rw[<-(show s3=w3.heap.size from(uh HS3).1),<-(uh HW4)];clear HW3 HW4 q0 q1 q2 q3 q4;go_upto_region 6 with(at_builtin;refine wpList_append_lies _ rfl (.tmp 38) (.tmp 43) 86 rfl w.heap.size 89 i0 (.agg #[.int .i64 0,.bool false,.slice none 0 0,.slice none 0 0]) 4 64 Tryz.underlying86 HI0 hz0 hzs hzb rfl (by decide) _ _ _ rfl (World.ownsRow_nil _ _ _ _) ⟨w4.heap.size,0,none⟩ 1 1 [.int .i64 ((i:Int)+1),.bool true,.slice pt1 T.length ct1,.slice pg1 G.length cg1] rfl rfl hqc h1c (by decide) (by unfold maxLen;omega) (by omega) (by rw[World.size_alloc];omega) (w4.heap.size+1) (by simp) ?_;intro g cap' w7 hown3 hgr3 hl3 _;obtain⟨k7,z1,z2,z3⟩:=(uh HSTP) _ _ _ _ hown3 hgr3;clear hown3 hgr3 hl3 hqc h1c HSTP);replace d0:=k7.cell d0;replace d1:=k7.cell d1;replace d2:=k7.cell d2;replace d3:=k7.cell d3;replace f0:=k7.cell f0;replace f1:=k7.cell f1;replace f2:=k7.cell f2;have h7w:w.heap.size<=w7.heap.size:=Nat.le_trans h4w k7.size;have HK7:Hid (Kb 0 w w7/\Kb 0 w4 w7):=(⟨(uh HBL).2.2.2.2.trans k7,k7⟩:_/\_)
 have HZ1:Hid (w7.ownsRow w.heap.size 89 4 (.slice (some ⟨g,0,none⟩) 1 cap') 1 (nx4 (i+1,.slice pt1 T.length ct1,.slice pg1 G.length cg1))/\FoE (λk=>av k/\k<w.heap.size) w7 (i+1,.slice pt1 T.length ct1,.slice pg1 G.length cg1) (i+1,(T,G))/\FoR av w.heap.size w7 (.slice (some ⟨g,0,none⟩) 1 cap') [(i+1,(T,G))]):=(⟨z1,z2,z3⟩:_/\_)
 clear k7 z1 z2 z3;have hrr:=(uh HRR)
 have hlen:=(uh HAV).2.2;have h41:=(uh H41)
 have HCP:=sp_copy w7 (hrr.2.2.1.kb (uh HK7).1) (by omega);obtain⟨y,hy⟩:∃y,s.1[kc]? =some y:=⟨_,List.getElem?_eq_getElem h41.2⟩
 have hyg:s.1.getD kc 0=y:=by rw[List.getD_eq_getElem?_getD,hy];rfl
 obtain⟨b0,hb0,rb0⟩:∃b0:Addr,pt0=some b0/\w.cell? (b0.add kc)=some (.int .i64 y):=by
  obtain⟨p',c',e,-,h6⟩:=hrr.1;obtain⟨rfl,rfl⟩:pt0=p'/\ct0=c':=by simpa using e
  obtain⟨a',e',_,h7⟩:=h6 (by omega);exact⟨a',e',h7 kc y hy⟩
 subst hb0
 have HY:Hid (∀w8,Kb 0 w7 w8->w8.cell? (b0.add kc)=some (.int .i64 y)/\w8.cell? ⟨w.heap.size+1,1,none⟩=some (.slice (some b0) s.1.length ct0)/\w8.cell? ⟨w.heap.size+1+1,2,none⟩=some (.int .i64 j)/\w8.cell? ⟨w.heap.size+1+1,3,none⟩=some (.int .i64 kc)):=(λw8 k8=>by
  have hk7:=(uh HK7)
  have hbl:=(uh HBL)
  exact⟨(hk7.1.trans k8).cell rb0,(hk7.2.trans k8).cell (cell_of hbl.1 rfl),k8.cell d2,k8.cell d3⟩:∀w8,_)
 have kI:(kc:Int)<(s.1.length:Int):=by omega
 have kT:(kc:Int)<(T.length:Int):=by omega
 have lI:(T.length:Int)<=250:=by omega
 have sI:(s.1.length:Int)<=250:=by omega
 have HKT:Hid (kc<T.length/\s.1.getD kc 0=y):=(⟨by omega,hyg⟩:_/\_)
 clear hrr hlen h41 hy hyg rb0 h4w;go_upto_region 16 with(go_at_call 33;refine HCP.mono ?_;rintro e w8 ⟨v5,rfl,hO5,k8⟩;obtain⟨c1',c2',c3',c4'⟩:=(uh HY) w8 k8;have HO5:Hid (OwI w7.heap.size w8 v5 T/\Kb 0 w7 w8):=(⟨hO5,k8⟩:_/\_);clear hO5 k8 HCP);have hO5:=(uh HO5)
 obtain⟨b5,q5,cap5,y5,rfl,hb5,hcap5,hq5,hob5,cy5,fz5,hset5⟩:=own_wr hO5.1 (uh HKT).1;have fzk:=fz5 kc;have HS5:Hid (OwI w7.heap.size (w8.setCell (b5.add kc) (.int .i64 y)) (.slice (some b5) T.length cap5) (T.set kc y)/\Kx q5 w8 (w8.setCell (b5.add kc) (.int .i64 y))/\w7.heap.size<=q5):=(⟨(hset5 w8 (Kb.refl _ _) y).1,(hset5 w8 (Kb.refl _ _) y).2,hq5⟩:_/\_)
 have cI5:(T.length:Int)<=(cap5:Int):=by omega
 clear hO5 hb5 hcap5 hq5 hob5 fz5 hset5 d0 d1 d2 d3 f0 f1 f2
 go_region
 go_upto_region 17 with fail;obtain⟨wa,hwa⟩:∃wa,wa=(w8.setCell (b5.add kc) (.int .i64 y)).drew:=⟨_,rfl⟩
 rw[<-hwa];have hs5:=(uh HS5)
 have k7a:Kb 0 w7 wa:=by rw[hwa];exact(Kx.kb (uh HO5).2 hs5.2.1 hs5.2.2).drew
 have hOa:OwI w7.heap.size wa (.slice (some b5) T.length cap5) (T.set kc y):=by rw[hwa];exact World.ownsRow.drew hs5.1
 clear c1' c2' c3' c4' cy5 fzk;obtain⟨c1',c2',c3',c4'⟩:=(uh HY) wa k7a;have hrr:=(uh HRR)
 have HKa:Hid (Kb 0 w7 wa):=k7a
 have HE2:Hid (∀gg,gg<w7.heap.size->w.heap.size<=gg->FoE (λk=>av k/\k≠gg) wa (j,.slice (some b5) T.length cap5,.slice pg1 G.length cg1) (j,s)):=(λgg hgg hgw=>by
  have h41:=(uh H41).1;rw[(uh HKT).2]at h41;have hav:=(uh HAV).1;rw[<-h41];refine⟨rfl,hOa.rz.imp (λb _ hb=>⟨hav b (by omega),by omega⟩),?_⟩
  exact(hrr.2.2.2.imp (λb hb h=>(⟨h,by omega⟩:av b/\b≠gg))).kb ((uh HK7).1.trans k7a):∀gg,_)
 clear hwa hs5 k7a hOa hrr HS5 HO5 H41 HKT HY;have howna:∀o,(wa.alloc o).ownsRow w.heap.size 89 4 (.slice (some ⟨g,0,none⟩) 1 cap') 1 (nx4 (i+1,.slice pt1 T.length ct1,.slice pg1 G.length cg1)):=λo=>World.ownsRow.alloc (rowBlk' (uh HZ1).1 (λb e=>(uh HKa).block b zq ((uh HZ1).1.lt b e).2)) o;have hqc:=qr_cells wa #[.int .i64 j,.bool true,.slice (some b5) T.length cap5,.slice pg1 G.length cg1] 89 [.int .i64 j,.bool true,.slice (some b5) T.length cap5,.slice pg1 G.length cg1] rfl;have h1c:∀u ∈ ([.int .i64 j,.bool true,.slice (some b5) T.length cap5,.slice pg1 G.length cg1]:List Value),u.oneCell'=true:=by intro u hu;simp at hu;rcases hu with rfl|rfl|rfl|rfl<;>rfl
 have hWw:w.heap.size<=wa.heap.size:=Nat.le_trans h7w (uh HKa).size
 have HSTQ:Hid (∀(E:Obj) (g' c2:Nat) (w9:World),w9.ownsRow w.heap.size 89 4 (.slice (some ⟨g',0,none⟩) (1+1) c2) (1+1) (nx4 (i+1,.slice pt1 T.length ct1,.slice pg1 G.length cg1)++[.int .i64 j,.bool true,.slice (some b5) T.length cap5,.slice pg1 G.length cg1])->(wa.alloc E).grownBy w9 (Value.slice (some ⟨g,0,none⟩) 1 cap').ownBlock->FoA av (fol (d.N i) i s T G) w (.returned (.slice (some ⟨g',0,none⟩) 2 c2)) w9):=(λE g' c2 w9 h1 h2=>by
  have hz1:=(uh HZ1)
  have kk:Kb 0 w7 wa:=HKa;have hg1:=(hz1.1.lt g rfl)
  have hav:=(uh HAV).1;have e1:FoE (λk=>av k/\k≠g) wa (i+1,.slice pt1 T.length ct1,.slice pg1 G.length cg1) (i+1,(T,G)):=(hz1.2.1.imp (λb _ h=>⟨h.1,by omega⟩)).on (λb _ hb=>kk.block b zq hb);have e2:FoE (λk=>av k/\k≠g) wa (j,.slice (some b5) T.length cap5,.slice pg1 G.length cg1) (j,s):=(uh HE2) g hg1.2 hg1.1;refine⟨_,rfl,?_,((uh HK7).1.trans kk |>.alloc E).gr h2 (λb e=>by cases e;exact hg1.1)⟩;rw[(uh HAV).2.1,show fol ⟨41,oa,(j:Int),(kc:Int),od⟩ i s T G=[(i+1,(T,G)),(j,s)]from by unfold fol Ends tgt att;simp]
  exact(for_two e1 e2 (λb hb _ q=>hb.2 (by simpa [Value.ownBlock]using q)) h1 h2).imp (λb _ h=>h.1):∀(E:Obj),_)
 clear HZ1 HK7 HRR;go_wp2_with (at_builtin;refine wpList_append_lies _ rfl (.tmp 82) (.tmp 89) 86 rfl w.heap.size 89 i0 (.agg #[.int .i64 0,.bool false,.slice none 0 0,.slice none 0 0]) 4 64 Tryz.underlying86 HI0 hz0 hzs hzb rfl (by decide) _ _ _ rfl (howna _) ⟨wa.heap.size,0,none⟩ 1 1 [.int .i64 j,.bool true,.slice (some b5) T.length cap5,.slice pg1 G.length cg1] rfl rfl hqc h1c (by decide) (by unfold maxLen;omega) (by omega) (by rw[World.size_alloc];omega) (wa.heap.size+1) (by simp) ?_;intro g' cap2 w9 hown3 hgr3 hl3 _;have HZ:Hid _:=(uh HSTQ) _ _ _ _ hown3 hgr3;clear hown3 hgr3 hl3 howna hqc h1c HSTQ);refine bodyPost_ret (by simp[results,Tryz.results38,go_sem];rfl) rfl ?_;exact HZ
def ZF(T:List Int)(b r:Nat)(L:List Int):Prop:=L.length=T.length/\∀j,L[j]? =if b<=j/\j<r then T[j]?.map (λ_=>0)else T[j]?
theorem ZF.start(T:List Int)(b:Nat):ZF T b b T:=⟨rfl,λj=>by rw[if_neg (by omega)]⟩
theorem ZF.step{r:Nat}(h:ZF T b r L)(hb:b<=r)(hr:r<T.length):ZF T b (r+1) (L.set r 0):=by
 refine⟨by rw[List.length_set];exact h.1,λj=>?_⟩;rw[List.getElem?_set];by_cases e:r=j
 ·subst e;rw[if_pos rfl,if_pos (by rw[h.1];exact hr),if_pos ⟨hb,by omega⟩,List.getElem?_eq_getElem hr];rfl
 ·rw[if_neg e,h.2 j];by_cases c:b<=j/\j<r
  ·rw[if_pos c,if_pos ⟨c.1,by omega⟩]
  ·rw[if_neg c,if_neg (λq=>c ⟨q.1,by omega⟩)]
theorem ZF.done(h:ZF T b T.length L)(hb:b+2<=T.length):(L.set b 1).set (b+1) 1=tcl T (b:Int):=by
 unfold tcl;rw[show((b:Int)).toNat=b from rfl];apply List.ext_getElem?;intro j;rw[List.getElem?_set,List.getElem?_set,List.length_set,h.1,h.2 j];have ht:(T.take b).length=b:=by rw[List.length_take];omega
 rcases Nat.lt_trichotomy j b with q|q|q
 ·rw[if_neg (by omega),if_neg (by omega),if_neg (by omega),List.getElem?_append_left (by omega),List.getElem?_take_of_lt q]
 ·subst q;rw[if_neg (by omega),if_pos rfl,if_pos (by omega),List.getElem?_append_right (by omega),ht,Nat.sub_self];rfl
 ·by_cases q1:j=b+1
  ·subst q1;rw[if_pos rfl,if_pos (by omega),List.getElem?_append_right (by omega),ht,show b+1-b=1 by omega];rfl
  ·rw[if_neg (by omega),if_neg (by omega),List.getElem?_append_right (by omega),ht,show j-b=(j-b-2)+1+1 by omega,List.getElem?_cons_succ,List.getElem?_cons_succ,List.getElem?_replicate];rcases Nat.lt_or_ge j T.length with c|c
   ·rw[if_pos ⟨by omega,c⟩,if_pos (by omega),List.getElem?_eq_getElem c];rfl
   ·rw[if_neg (by omega),if_neg (by omega),List.getElem?_eq_none c]
