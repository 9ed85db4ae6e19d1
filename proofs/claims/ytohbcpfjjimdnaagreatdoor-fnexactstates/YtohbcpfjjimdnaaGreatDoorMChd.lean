import Derived.Test.YtohbcpfjjimdnaaGreatDoorMCbb
set_option maxHeartbeats 16000000
namespace Go.Proofs.YtohbcpfjjimdnaaGreatDoor.Fo
open Go.ChangeShapes Go.WideShapes Go.ChangeAt Go.RowKit
set_option linter.unusedVariables false
set_option maxRecDepth 100000
variable {es:Array MapEntry}{L:List Int}{w a W W':World}{M S o n:Nat}{v m:Value}{xs:List Value}
def IsSl(v:Value):Prop:=∃a b c,v=.slice a b c
theorem im_hasups{d e:Pd}{pu ku:Option Addr}{cu ke:Nat}{xc xn xd vc vn vd:Value}(w:World)(hrow:RowU 0 w (.slice ku e.u ke) e.u e.U)(hu:d.u<=1048576)(hue:e.u<=1048576)(hx:IsSl xc/\IsSl xn/\IsSl xd/\IsSl vc/\IsSl vn/\IsSl vd):
  Calls Tryz.prog 111 #[.agg #[.string d.x,.int .i64 d.l,.int .i64 d.m,.bool d.r,.int .i64 d.g,.slice pu d.u cu,xc,xn,xd],.agg #[.string e.x,.int .i64 e.l,.int .i64 e.m,.bool e.r,.int .i64 e.g,.slice ku e.u ke,vc,vn,vd]] w λe' w'=>e'=.returned (.bool (dc (Uok d e)))/\Kb 0 w w':=by
 obtain⟨⟨a1,b1,c1,rfl⟩,⟨a2,b2,c2,rfl⟩,⟨a3,b3,c3,rfl⟩,⟨a4,b4,c4,rfl⟩,⟨a5,b5,c5,rfl⟩,⟨a6,b6,c6,rfl⟩⟩:=hx;obtain⟨w2,hw2⟩:∃w2,w2=(w.alloc (.cells #[.string d.x,.int .i64 d.l,.int .i64 d.m,.bool d.r,.int .i64 d.g,.slice pu d.u cu,.slice a1 b1 c1,.slice a2 b2 c2,.slice a3 b3 c3] 52)).alloc (.cells #[.string e.x,.int .i64 e.l,.int .i64 e.m,.bool e.r,.int .i64 e.g,.slice ku e.u ke,.slice a4 b4 c4,.slice a5 b5 c5,.slice a6 b6 c6] 52):=⟨_,rfl⟩
 obtain⟨q0,q1,qs,k2⟩:=two_new' w _ _ _ _ w2 hw2;have HS:Hid (Kb 0 w w2/\w2.cell? ⟨w.heap.size,4,none⟩=some (.int .i64 d.g)/\w2.cell? ⟨w.heap.size,5,none⟩=some (.slice pu d.u cu)/\RowU 0 w2 (.slice ku e.u ke) e.u e.U):=(⟨k2,cell_of q0 rfl,cell_of q0 rfl,hrow.keep k2⟩:_/\_)
 have huI:(d.u:Int)<=1048576:=by omega
 have hueI:(e.u:Int)<=1048576:=by omega
 obtain⟨R,hR⟩:∃R,R=dc (Uok d e):=⟨_,rfl⟩
 rw[<-hR];have HR:Hid (R=dc (Uok d e)):=hR;have HW:Hid (w2=_):=hw2;clear hR hw2 q0 q1 qs k2 hrow hu hue;go_enter Tryz.func111,Tryz.ntmps111;go_wp2_with fail;rw[<-(uh HW)];clear HW
 go_loopw [11] (λsl wr=>∃j:Nat,sl=.int .i64 j/\j<=e.u/\Hid (Kb 0 w2 wr/\∀y,y<j->0<=(e.U y).2/\(e.U y).2<(if(e.U y).1=true then d.g else(d.u:Int)))) (λsl _=>e.u-(intOf sl).toNat)
 case atStart=>exact⟨0,rfl,Nat.zero_le _,(⟨Kb.refl _ _,λy h=>by omega⟩:_/\_)⟩
 case round=>
  obtain⟨j,rfl,hj,HX⟩:=hrel;obtain⟨kw,hX⟩:=(uh HX)
  obtain⟨k2,e4,e5,hru⟩:=(uh HS)
  have hR:=(uh HR)
  rcases Nat.lt_or_ge j e.u with h|h
  ·have hI:(j:Int)<(e.u:Int):=by omega
   obtain⟨ku',ke',ee,hru2⟩:=hru;obtain⟨rfl,-,rfl⟩:ku=ku'/\e.u=e.u/\ke=ke':=by simpa using ee
   obtain⟨b,rfl,hcb,-,hrb⟩:=hru2 (by omega);obtain⟨q0,q1⟩:=(hrb j h).keep zq kw;have o4:∀o,(wr.alloc o).cell? ⟨w.heap.size,4,none⟩=some (.int .i64 d.g):=λo=>(kw.alloc o).cell e4;have o5:∀o,(wr.alloc o).cell? ⟨w.heap.size,5,none⟩=some (.slice pu d.u cu):=λo=>(kw.alloc o).cell e5
   have hgood:(0<=(e.U j).2/\(e.U j).2<(if(e.U j).1=true then d.g else(d.u:Int)))->∀o,Kb 0 w2 (wr.alloc o)/\∀y,y<j+1->0<=(e.U y).2/\(e.U y).2<(if(e.U y).1=true then d.g else(d.u:Int)):=λc o=>⟨kw.alloc o,λy hy=>by
    by_cases ey:y=j
    ·subst ey;exact c
    ·exact hX y (by omega)⟩
   have hbad:¬(0<=(e.U j).2/\(e.U j).2<(if(e.U j).1=true then d.g else(d.u:Int)))->R=false/\∀o,Kb 0 w (wr.alloc o):=λc=>⟨by rw[hR];exact dc_f (λq=>c (q j h)),λo=>(k2.trans kw).alloc o⟩
   clear HX hX kw k2 e4 e5 hru2 hrb ee hR;generalize e.U j=uj at*;obtain⟨xl,xi⟩:=uj;dsimp only at q0 q1 hgood hbad;cases xl with
   |true=>
    by_cases c1:xi<0
    ·obtain⟨hF,hk⟩:=hbad (by rw[if_pos rfl];omega);subst hF;have HK:Hid (∀o,Kb 0 w (wr.alloc o)):=hk;clear hgood hbad hk HR;go_wp2_with fail;go_ret;exact⟨rfl,(uh HK) _⟩
    by_cases c2:d.g<=xi
    ·obtain⟨hF,hk⟩:=hbad (by rw[if_pos rfl];omega);subst hF;have HK:Hid (∀o,Kb 0 w (wr.alloc o)):=hk;clear hgood hbad hk HR;go_wp2_with fail;go_ret;exact⟨rfl,(uh HK) _⟩
    have HG:Hid (∀o,Kb 0 w2 (wr.alloc o)/\∀y,y<j+1->0<=(e.U y).2/\(e.U y).2<(if(e.U y).1=true then d.g else(d.u:Int))):=hgood (by rw[if_pos rfl];omega);clear hgood hbad;go_wp2_with fail;go_roundw
    case rel=>exact⟨j+1,by go_num,by omega,(uh HG) _⟩
    case measure=>simp[intOf];omega
   |false=>
    by_cases c1:xi<0
    ·obtain⟨hF,hk⟩:=hbad (by rw[if_neg (by decide)];omega);subst hF;have HK:Hid (∀o,Kb 0 w (wr.alloc o)):=hk;clear hgood hbad hk HR;go_wp2_with fail;go_ret;exact⟨rfl,(uh HK) _⟩
    by_cases c2:(d.u:Int)<=xi
    ·obtain⟨hF,hk⟩:=hbad (by rw[if_neg (by decide)];omega);subst hF;have HK:Hid (∀o,Kb 0 w (wr.alloc o)):=hk;clear hgood hbad hk HR;go_wp2_with fail;go_ret;exact⟨rfl,(uh HK) _⟩
    have HG:Hid (∀o,Kb 0 w2 (wr.alloc o)/\∀y,y<j+1->0<=(e.U y).2/\(e.U y).2<(if(e.U y).1=true then d.g else(d.u:Int))):=hgood (by rw[if_neg (by decide)];omega);clear hgood hbad;go_wp2_with fail;go_roundw
    case rel=>exact⟨j+1,by go_num,by omega,(uh HG) _⟩
    case measure=>simp[intOf];omega
  ·have hI:¬(j:Int)<(e.u:Int):=by omega
   have hT:R=true:=by rw[hR];exact dc_t (λy hy=>hX y (by omega))
   subst hT;have HK:Hid (Kb 0 w wr):=k2.trans kw;clear HX hX kw k2 e4 e5 hru hR HR HS;go_wp2_with fail;go_ret;exact⟨rfl,HK⟩
theorem tMI:Tryz.prog.underlying 122=some (.map 3 3):=by kernel_rfl
theorem t3I:Tryz.prog.underlying 3=some (.int .i64):=by kernel_rfl
def Mi(w:World)(M:Nat)(L:List Int):Prop:=∃es clock,w.heap[M]? =some (.map es clock)/\es.toList.map (λe=>e.key)=L.map (λx=>Value.int .i64 x)/\∀e ∈ es.toList,∃p:Int,e.val=.int .i64 p
theorem mi_key(h:es.toList.map (λe=>e.key)=L.map (λx=>Value.int .i64 x)):∀e ∈ es.toList,MapKept.IsKey (.int .i64) e.key:=by
 intro e he;have:e.key ∈ es.toList.map (λe=>e.key):=List.mem_map.2 ⟨e,he,rfl⟩;rw[h]at this;obtain⟨y,_,hy⟩:=List.mem_map.1 this;rw[<-hy];rfl
theorem mi_mem(h:es.toList.map (λe=>e.key)=L.map (λx=>Value.int .i64 x))(x:Int):(∃e ∈ es.toList,e.key=.int .i64 x)↔x ∈ L:=by
 have e1:(∃e ∈ es.toList,e.key=.int .i64 x)↔Value.int .i64 x ∈ es.toList.map (λe=>e.key):=by simp
 rw[e1,h]
 simp
theorem run_lookI(h:Mi w M L)(x:Int):∃p:Int,(Instr.lookup 122 (.map (some M)) (.int .i64 x) true).run Tryz.prog w=.ok (.tuple #[.int .i64 p,.bool (dc (x ∈ L))]) w:=by
 obtain⟨es,clock,hb,he,hv⟩:=h;have hk:MapKept.IsKey (.int .i64) (.int .i64 x):=rfl;have hc:=MapKept.run_checkKey (w:=w) t3I hk;rcases MapKept.findNow_spec hk es.toList 0 (mi_key he)with⟨h1,h2⟩|⟨j,e,h1,h2,h3⟩
 ·refine⟨0,?_⟩;have hr:=MapKept.run_findKey (w:=w) t3I h1;rw[dc_f (λg=>by obtain⟨e,e1,e2⟩:=(mi_mem he x).2 g;exact h2 e e1 e2)];unfold Instr.lookup;have hz:(zeroValue 3).run Tryz.prog w=.ok (.int .i64 0) w:=by kernel_rfl
  simp only[Sem.run_bind,run_underlying tMI,Result.andThen_ok,MapKept.run_getObj_map hb,Sem.run_pure,hc,hr,hz];rfl
 ·obtain⟨p,hp⟩:=hv e (List.mem_of_getElem? h2);refine⟨p,?_⟩;have hr:=MapKept.run_findKey (w:=w) t3I h1;rw[dc_t ((mi_mem he x).1 ⟨e,List.mem_of_getElem? h2,h3⟩)];unfold Instr.lookup;simp only[Sem.run_bind,run_underlying tMI,Result.andThen_ok,MapKept.run_getObj_map hb,Sem.run_pure,hc,hr];rw[hp];rfl
theorem run_lookN(w:World)(x:Int):(Instr.lookup 122 (.map none) (.int .i64 x) true).run Tryz.prog w=.ok (.tuple #[.int .i64 0,.bool false]) w:=by kernel_rfl
theorem run_makeI(w:World):(Instr.makeMap 122 none).run Tryz.prog w=.ok (.map (some w.heap.size)) (w.alloc (.map #[] 0)):=by kernel_rfl
def setB(w:World)(M:Nat)(o:Obj):World:={w with heap:=w.heap.setIfInBounds M o}
theorem setB_ne(w:World)(M:Nat)(o:Obj)(b:Nat)(h:b≠M):(setB w M o).heap[b]? =w.heap[b]?:=by
 unfold setB;show(w.heap.setIfInBounds M o)[b]? =_;rw[Array.getElem?_setIfInBounds,if_neg (λe=>h e.symm)]
theorem run_updI(h:Mi w M L)(x t:Int)(hn:x ∉ L):∃o,(Instr.mapUpdate 122 (.map (some M)) (.int .i64 x) (.int .i64 t)).run Tryz.prog w=.ok () (setB w M o)/\Mi (setB w M o) M (L++[x]):=by
 obtain⟨es,clock,hb,he,hv⟩:=h;have hk:MapKept.IsKey (.int .i64) (.int .i64 x):=rfl;have hc:=MapKept.run_checkKey (w:=w) t3I hk;rcases MapKept.findNow_spec hk es.toList 0 (mi_key he)with⟨h1,h2⟩|⟨j,e,h1,h2,h3⟩
 ·have hr:=MapKept.run_findKey (w:=w) t3I h1;refine⟨.map (es.push {key:=.int .i64 x,val:=.int .i64 t,born:=clock}) (clock+1),?_,?_⟩
  ·unfold Instr.mapUpdate;simp only[Sem.run_bind,run_underlying tMI,Result.andThen_ok,MapKept.run_getObj_map hb,hc,hr,MapKept.run_setObj_map _ hb];rfl
  ·refine⟨_,_,(MapKept.heap_set hb).1,?_,?_⟩
   ·simp[he]
   ·intro e hm;simp at hm;rcases hm with hm|rfl
    ·exact hv e (by simpa using hm)
    ·exact⟨t,rfl⟩
 ·exact absurd ((mi_mem he x).1 ⟨e,List.mem_of_getElem? h2,h3⟩) hn
theorem Mi.on(h:Mi a M L)(k:w.heap[M]? =a.heap[M]?):Mi w M L:=by
 obtain⟨es,clock,hb,he⟩:=h;exact⟨es,clock,k.trans hb,he⟩
theorem Mi.new(w:World):Mi (w.alloc (.map #[] 0)) w.heap.size []:=⟨#[],0,(MapKept.heap_alloc w _).1,rfl,by simp⟩
def iv(L:List Int):List Value:=L.map (λx=>Value.int .i64 x)
structure Zt (S o:Nat) (L:List Int) (v m:Value) (W:World):Prop where
 c0:W.cell? ⟨S,o,none⟩=some v
 c1:W.cell? ⟨S,o+1,none⟩=some m
 fz:∀j,W.frozen? ⟨S,j,none⟩=false
 row:W.ownsRow 0 3 1 v L.length (iv L)
 mp:(L=[]/\m=.map none)\/∃M,m=.map (some M)/\Mi W M L
 ne:v.ownBlock≠some S
structure Ks (S o:Nat) (v m v' m':Value) (w w':World):Prop where
 os:w'.os=w.os
 output:w'.output=w.output
 size:w.heap.size<=w'.heap.size
 block:∀k,k<w.heap.size->k≠S->v.ownBlock≠some k->m≠ .map (some k)->w'.heap[k]? =w.heap[k]?
 cells:∀j,j≠o->j≠o+1->w'.cell? ⟨S,j,none⟩=w.cell? ⟨S,j,none⟩
 hv:∀k,v'.ownBlock=some k->v.ownBlock=some k\/w.heap.size<=k
 hm:∀k,m'=.map (some k)->m=.map (some k)\/w.heap.size<=k
theorem Ks.refl(S o:Nat)(v m:Value)(w:World):Ks S o v m v m w w:=⟨rfl,rfl,Nat.le_refl _,λ_ _ _ _ _=>rfl,λ_ _ _=>rfl,λ_ h=>.inl h,λ_ h=>.inl h⟩
theorem Ks.trans{v1 m1 v2 m2:Value}{b c:World}(h:Ks S o v m v1 m1 a b)(k:Ks S o v1 m1 v2 m2 b c):Ks S o v m v2 m2 a c:=by
 have h0:=h.size;refine⟨k.os.trans h.os,k.output.trans h.output,Nat.le_trans h.size k.size,λi hi h1 h2 h3=>?_,λj h1 h2=>(k.cells j h1 h2).trans (h.cells j h1 h2),λi hi=>?_,λi hi=>?_⟩
 ·refine(k.block i (by omega) h1 (λe=>?_) (λe=>?_)).trans (h.block i hi h1 h2 h3)
  ·rcases h.hv i e with q|q
   ·exact h2 q
   ·omega
  ·rcases h.hm i e with q|q
   ·exact h3 q
   ·omega
 ·rcases k.hv i hi with q|q
  ·exact h.hv i q
  ·exact .inr (by omega)
 ·rcases k.hm i hi with q|q
  ·exact h.hm i q
  ·exact .inr (by omega)
theorem lt_of_obj{B:Nat}{o:Obj}(h:W.heap[B]? =some o):B<W.heap.size:=by
 rcases Nat.lt_or_ge B W.heap.size with g|g
 ·exact g
 ·rw[Array.getElem?_eq_none g]at h;cases h
theorem rowBlk{base e size:Nat}(h:W.ownsRow base e size v n xs)(hk:∀g,v.ownBlock=some g->W'.heap[g]? =W.heap[g]?):W'.ownsRow base e size v n xs:=by
 refine⟨h.1,?_⟩;rcases h.2 with h|⟨g,cap,cur,e1,e2,e3,e4⟩
 ·exact .inl h
 ·exact .inr ⟨g,cap,cur,e1,e2,(hk g (by rw[e1];rfl)).trans e3,e4⟩
theorem map_cells{j:Nat}(h:Mi W M L)(hc:W.cell? ⟨S,j,none⟩=some v):M≠S:=by
 rintro rfl;obtain⟨es,clock,hb,_⟩:=h;simp[World.cell?,hb]at hc
theorem map_row{g:Nat}(h:Mi W M L)(hr:W.ownsRow 0 3 1 v n xs)(hg:v.ownBlock=some g):M≠g:=by
 rintro rfl;obtain⟨es,clock,hb,_⟩:=h;rcases hr.2 with⟨rfl,_⟩|⟨g',cap,cur,e1,e2,e3,e4⟩
 ·cases hg
 ·have e:g'=M:=by rw[e1]at hg;simpa [Value.ownBlock]using hg
  subst e;rw[e3]at hb;cases hb
theorem Zt.on(h:Zt S o L v m W)(k:Kb 0 W W'):Zt S o L v m W':=by
 refine⟨k.cell h.c0,k.cell h.c1,λj=>(k.frozen zq (lt_of_cell' h.c0)).trans (h.fz j),rowBlk h.row (λg e=>k.block g zq (h.row.lt g e).2),?_,h.ne⟩;rcases h.mp with q|⟨M,e,hM⟩
 ·exact .inl q
 ·obtain⟨es,clock,hb,he⟩:=hM;exact .inr ⟨M,e,es,clock,(k.block M zq (lt_of_obj hb)).trans hb,he⟩
theorem Zt.shape(h:Zt S o L v m W):∃(ad:Option Addr) (cap:Nat),v=.slice ad L.length cap:=by
 rcases h.row.2 with⟨rfl,e⟩|⟨g,cap,cur,rfl,_⟩
 ·exact⟨none,0,by rw[show L.length=0 from e]⟩
 ·exact⟨_,cap,rfl⟩
theorem Zt.add{v':Value}{x:Int}{w7:World}{ob E:Obj}(h:Zt S o L v (.map (some M)) W)(hM:Mi (setB W M ob) M (L++[x]))(ho:w7.ownsRow 0 3 1 v' (L.length+1) (iv L++[.int .i64 x]))(hg:((setB W M ob).alloc E).grownBy w7 v.ownBlock)(hl:∀g,v'.ownBlock=some g->v.ownBlock=some g\/g=W.heap.size+1):
  w7.cell? ⟨S,o,none⟩=some v/\w7.frozen? ⟨S,o,none⟩=false/\Zt S o (L++[x]) v' (.map (some M)) (w7.setCell ⟨S,o,none⟩ v')/\Ks S o v (.map (some M)) v' (.map (some M)) W (w7.setCell ⟨S,o,none⟩ v'):=by
 have hMM:Mi W M L:=by
  rcases h.mp with⟨_,q⟩|⟨M',e,hM'⟩
  ·cases q
  ·have:M=M':=by simpa using e
   subst this;exact hM'
 have hMS:M≠S:=map_cells hMM h.c0;have hSl:=lt_of_cell' h.c0;have hMl:M<W.heap.size:=by obtain⟨es,clock,hb,_⟩:=hMM;exact lt_of_obj hb
 have hsz:(setB W M ob).heap.size=W.heap.size:=by unfold setB;simp
 have hSl':S<W.heap.size:=hSl
 have hblk:∀k,k<W.heap.size->k≠M->v.ownBlock≠some k->w7.heap[k]? =W.heap[k]?:=λk hk hkM hne=>by
  rw[hg.block k (by rw[World.size_alloc,hsz];omega) (λe=>hne e.symm),Below.heap_alloc _ _ _ (by rw[hsz];omega)];exact setB_ne _ _ _ _ hkM
 have hS7:w7.heap[S]? =W.heap[S]?:=hblk S hSl' (λe=>hMS e.symm) h.ne
 have hv'S:∀g,v'.ownBlock=some g->g≠S:=λg e=>by
  rcases hl g e with q|q
  ·rintro rfl;exact h.ne q
  ·omega
 have hM7:w7.heap[M]? =(setB W M ob).heap[M]?:=by
  rw[hg.block M (by rw[World.size_alloc,hsz];omega) (λe=>map_row hMM h.row e.symm rfl),Below.heap_alloc _ _ _ (by rw[hsz];omega)]
 have hse:∀k,k≠S->(w7.setCell ⟨S,o,none⟩ v').heap[k]? =w7.heap[k]?:=λk hne=>Below.heap_setCell w7 _ _ _ hne;have hc7:w7.cell? ⟨S,o,none⟩=some v:=(World.cell?_of_block hS7).trans h.c0;have hf7:∀j,w7.frozen? ⟨S,j,none⟩=false:=λj=>(World.frozen?_of_block hS7).trans (h.fz j);have hgs:=hg.size;rw[World.size_alloc,hsz]at hgs;refine⟨hc7,hf7 o,⟨set_eq _ _ _ _ _ hc7,?_,λj=>(set_fz _ _ _ _ _).trans (hf7 j),?_,.inr ⟨M,rfl,hM.on ((hse M hMS).trans hM7)⟩,λe=>hv'S S e rfl⟩,⟨?_,?_,by rw[World.size_setCell];omega,λk hk h1 h2 h3=>?_,λj h1 h2=>?_,λk hk=>?_,λk hk=>.inl hk⟩⟩
 ·rw[set_ne _ _ _ _ _ (by omega)];exact(World.cell?_of_block hS7).trans h.c1
 ·rw[List.length_append];refine rowBlk (W:=w7) ?_ (λg e=>hse g (hv'S g e));unfold iv at ho⊢
  simpa using ho
 ·exact hg.os
 ·exact hg.output
 ·rw[hse k h1];exact hblk k hk (λe=>h3 (by rw[e])) h2
 ·rw[set_ne _ _ _ _ _ h1];exact World.cell?_of_block hS7
 ·rcases hl k hk with q|q
  ·exact .inl q
  ·exact .inr (by omega)
theorem infoI:(Tryz.prog.info? 3).map (λi=>(i.zero,i.size,i.bytes))=some (some (.int .i64 0),1,8):=by kernel_rfl
theorem im_has(x:Int)(w:World)(h:Zt S o L v m w):Calls Tryz.prog 112 #[.pointer (some ⟨S,o,none⟩),.int .i64 x] w λe w'=>e=.returned (.bool (dc (x ∈ L)))/\w'=w:=by
 have c1:=h.c1
 obtain⟨p,hl⟩:∃p:Int,(Instr.lookup 122 m (.int .i64 x) true).run Tryz.prog w=.ok (.tuple #[.int .i64 p,.bool (dc (x ∈ L))]) w:=by
  rcases h.mp with⟨rfl,rfl⟩|⟨M,rfl,hM⟩
  ·rw[dc_f (by simp)];exact⟨0,run_lookN w x⟩
  ·exact run_lookI hM x
 have hmv:∃b,m=.map b:=by
  rcases h.mp with⟨rfl,rfl⟩|⟨M,rfl,hM⟩<;>exact⟨_,rfl⟩
 obtain⟨b,rfl⟩:=hmv;clear h;generalize dc (x ∈ L)=z at*;go_enter Tryz.func112,Tryz.ntmps112;go_wp2_with fail;go_ret;exact⟨rfl,rfl⟩
