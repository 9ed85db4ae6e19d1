import Derived.Test.YtkhdehngobkkfaaGreatDoorASbd
import Derived.Lib.BufferRead
set_option maxRecDepth 100000
set_option maxHeartbeats 2000000
namespace Go.Proofs.YtkhdehngobkkfaaGreatDoor
open Go.ChangeShapes Go.WideShapes Go.ChangeAt Go.RowKit Go.Shelf
set_option linter.unusedVariables false
variable {W W' w:World}{base e n:Nat}{v:Value}{xs:List Value}
attribute [local go_sem] Oper.semAt_some
def tcs(tk:Nat->Tk)(x:Nat×Int):List Value:=[.int .i64 (tk x.1).kind,.int .i64 x.1,.int .i64 (tk x.1).to,.int .i64 x.2,.int .i64 (tk x.1).num,.string (tk x.1).text]
theorem rowKb{size:Nat}{B:Nat}(h:W.ownsRow base e size v n xs)(hk:Kb B W W')(hB:B<base):W'.ownsRow base e size v n xs:=by
 refine⟨h.1,?_⟩;rcases h.2 with h|⟨g,cap,cur,e1,e2,e3,e4⟩
 ·exact .inl h
 ·exact .inr ⟨g,cap,cur,e1,e2,(hk.block g (Array.getElem?_eq_some_iff.1 e3).1 (by omega)).trans e3,e4⟩
theorem rowBlk{size:Nat}(h:W.ownsRow base e size v n xs)(hk:∀g,v.ownBlock=some g->W'.heap[g]? =W.heap[g]?):W'.ownsRow base e size v n xs:=by
 refine⟨h.1,?_⟩;rcases h.2 with h|⟨g,cap,cur,e1,e2,e3,e4⟩
 ·exact .inl h
 ·exact .inr ⟨g,cap,cur,e1,e2,(hk g (by rw[e1];rfl)).trans e3,e4⟩
theorem ownsRow_mono'{base' size:Nat}(h:W.ownsRow base e size v n xs)(hb:base'<=base):W.ownsRow base' e size v n xs:=by
 refine⟨h.1,?_⟩;rcases h.2 with h|⟨g,cap,cur,e1,e2,e3⟩
 ·exact .inl h
 ·exact .inr ⟨g,cap,cur,e1,by omega,e3⟩
theorem Gd.blk{a:World}(h:Gd a)(hk:∀i,i<12->w.heap[i]? =a.heap[i]?)(hs:12<=w.heap.size):Gd w:=by
 have e:∀(g:Nat) (j:Nat),g<12->w.cell? ⟨g,j,none⟩=a.cell? ⟨g,j,none⟩:=λg j hg=>World.cell?_of_block (hk g hg);refine⟨λj v hv=>?_,λj v hv=>?_,λj v hv=>?_,?_,?_,hs⟩
 ·rw[e 0 _ (by omega)];exact h.words j v hv
 ·rw[e 1 _ (by omega)];exact h.marks j v hv
 ·rw[e 2 _ (by omega)];exact h.infx j v hv
 ·rw[e 11 0 (by omega)];exact h.err7
 ·rw[e 10 0 (by omega)];exact h.err6
structure Iv (n:Nat) (w:World) (tk:Nat->Tk) (pre:List (Nat×Int)) (W:World):Prop where
 os:W.os=w.os
 output:W.output=w.output
 size:n+4<=W.heap.size
 old:∀i,i<n->W.heap[i]? =w.heap[i]?
 res:W.heap[n]? =some (.cells #[.bool false,.int .i64 0,.slice none 0 0] 174 (0,0))
 box:W.heap[n+3]? =some (.cells #[.pointer (some ⟨n+1,0,none⟩)] 186 (0,0))
 row:∃v,W.heap[n+2]? =some (.cells #[v] 172 (0,0))/\W.ownsRow (n+4) 125 6 v pre.length (pre.flatMap (tcs tk))
theorem Iv.kb{tk:Nat->Tk}{pre:List (Nat×Int)}(h:Iv n w tk pre W)(hk:Kb (n+1) W W'):Iv n w tk pre W':=by
 have hs:=h.size;obtain⟨v,hv,hr⟩:=h.row
 exact⟨hk.os.trans h.os,hk.output.trans h.output,Nat.le_trans hs hk.size,λi hi=>(hk.block i (by omega) (by omega)).trans (h.old i hi),(hk.block n (by omega) (by omega)).trans h.res,
  (hk.block (n+3) (by omega) (by omega)).trans h.box,v,(hk.block (n+2) (by omega) (by omega)).trans hv,rowKb hr hk (by omega)⟩
theorem Iv.own(n:Nat)(w:World)(tk:Nat->Tk):OwnFrom (n+4) (Iv n w tk):=by
 intro pre W W' row h hg hr;have hs:=h.size;obtain⟨v,hv,hrow⟩:=h.row;have hb:∀i,i<n+4->W'.heap[i]? =W.heap[i]?:=λi hi=>hg.block i (by omega) (λe=>by have:=(hr i e.symm).1;omega);refine⟨hg.os.trans h.os,hg.output.trans h.output,Nat.le_trans hs hg.size,λi hi=>(hb i (by omega)).trans (h.old i hi),(hb n (by omega)).trans h.res,(hb (n+3) (by omega)).trans h.box,v,(hb (n+2) (by omega)).trans hv,?_⟩;refine rowBlk hrow (λg e=>?_);obtain⟨_,hlt⟩:=hrow.lt g e;refine hg.block g hlt (λe2=>?_);obtain⟨_,o,ho,hc⟩:=hr g e2.symm;rcases hrow.2 with⟨rfl,_⟩|⟨g',cap,cur,e3,_,e4,_⟩
 ·cases e
 ·rw[e3]at e;cases e;rw[e4]at ho;cases ho;cases hc
theorem Iv.gd{tk:Nat->Tk}{pre:List (Nat×Int)}(h:Iv n w tk pre W)(hg:Gd w)(hn:n=w.heap.size):Gd W:=by
 have:=hg.size;have hs:=h.size;exact hg.blk (λi hi=>h.old i (by omega)) (by omega)
def st3(W:World)(n:Nat)(a b c:Value):World:=(((W.setCell ⟨n,0,none⟩ a).setCell ⟨n,1,none⟩ b).setCell ⟨n,2,none⟩ c)
theorem st3_heap{x y z:Value}(h:W.heap[n]? =some (.cells #[x,y,z] 174 (0,0)))(a b c:Value):(st3 W n a b c).heap[n]? =some (.cells #[a,b,c] 174 (0,0)):=by
 simp[st3,World.setCell,Array.getElem?_modify,h]
theorem st3_other(a b c:Value)(i:Nat)(hi:i≠n):(st3 W n a b c).heap[i]? =W.heap[i]?:=by
 unfold st3;rw[Below.heap_setCell _ _ _ _ hi,Below.heap_setCell _ _ _ _ hi,Below.heap_setCell _ _ _ _ hi]
def scanV(e:Nat)(st:Bool)(v:Value):Value:=if st then .agg #[.bool false,.int .i64 e,.slice none 0 0]else .agg #[.bool true,.int .i64 0,v]
theorem infoTok:(Tryz.prog.info? 125).map (λi=>(i.zero,i.size,i.bytes))=some (some (.agg #[.int .i64 0,.int .i64 0,.int .i64 0,.int .i64 0,.int .i64 0,.string ⟨#[]⟩]),6,56):=by kernel_rfl
theorem impl_scan(T:ByteArray)(L:List UInt8)(hT:T.data.toList=L)(hlen:T.size<=65536)(tk:Nat->Tk)(ok:TkOk L tk)(xs:List (Nat×Int))(e:Nat)(st:Bool)(hrun:Run L tk (bl L 0) 1 xs e st)(w:World)(hg:Gd w)
    (htok:∀B,12<=B->TokC B T L tk) (hxl:xs.length<=65536):
    Calls Tryz.prog 133 #[.string T] w λen w'=>w.keptBut w' (λ_=>False)/\∃v,en=.returned (scanV e st v)/\(st=false->w'.ownsRow w.heap.size 125 6 v xs.length (xs.flatMap (tcs tk))):=by
  have hI:¬(65536:Int)<(T.size:Int):=by omega
  have h9:=hg.size;have HTO:=λW=>impl_tokens (w.heap.size+1) W;refine(callsIn_wide (n:=3)).1 ?_;refine callsIn_of_wp_marks Tryz.func133 rfl trivial ?_ rfl;simp only[Tryz.ntmps133,List.size_toArray,List.length_cons,List.length_nil,Nat.reduceAdd,Nat.reduceSub,Array.replicate_succ,Array.replicate_zero,List.push_toArray,List.append_toArray,List.nil_append,List.cons_append]
  gi_wp2_with fail
  refine⟨trivial,(callsIn_wide.2 (HTO _)).mono ?_⟩;rintro en w4 ⟨rfl,hw4⟩
  gi_wp2_with fail
  rw[<-hw4];have hsz:w4.heap.size=w.heap.size+4:=by rw[hw4];simp
  have hst:Iv w.heap.size w tk [] w4:=by
    refine⟨by rw[hw4];rfl,by rw[hw4];rfl,by omega,λi hi=>?_,?_,?_,.slice none 0 0,?_,World.ownsRow_nil _ _ _ _⟩
    · rw[hw4,Below.heap_alloc _ _ _ (by simp;omega),Below.heap_alloc _ _ _ (by simp;omega),Below.heap_alloc _ _ _ (by simp;omega),Below.heap_alloc _ _ _ hi]
    · rw[hw4,Below.heap_alloc _ _ _ (by simp;omega),Below.heap_alloc _ _ _ (by simp;omega),Below.heap_alloc _ _ _ (by simp)];exact World.alloc_heap_new _ _
    · rw[hw4];have:=World.alloc_heap_new (((w.alloc (Obj.cells #[Value.bool false,Value.int IntKind.i64 0,Value.slice none 0 0] 174)).alloc (Obj.cells #[Value.string T,Value.int IntKind.i64 0,Value.int IntKind.i64 1,Value.bool false] 182)).alloc (Obj.cells #[Value.slice none 0 0] 172)) (Obj.cells #[Value.pointer (some {block:=w.heap.size+1,off:=0})] 186)
      simpa using this
    · rw[hw4,Below.heap_alloc _ _ _ (by simp)];have:=World.alloc_heap_new ((w.alloc (Obj.cells #[Value.bool false,Value.int IntKind.i64 0,Value.slice none 0 0] 174)).alloc (Obj.cells #[Value.string T,Value.int IntKind.i64 0,Value.int IntKind.i64 1,Value.bool false] 182)) (Obj.cells #[Value.slice none 0 0] 172)
      simpa using this
  have hsb:Sb (w.heap.size+1) T 0 1 false w4:=by
    unfold Sb;rw[hw4,Below.heap_alloc _ _ _ (by simp),Below.heap_alloc _ _ _ (by simp)];have:=World.alloc_heap_new (w.alloc (Obj.cells #[Value.bool false,Value.int IntKind.i64 0,Value.slice none 0 0] 174)) (Obj.cells #[Value.string T,Value.int IntKind.i64 0,Value.int IntKind.i64 1,Value.bool false] 182)
    simpa using this
  clear hw4 HTO
  refine wpIn_rangeFunc_st (α:=Nat×Int) (n:=3) (by omega) (gf:=142) (lb:=#[.pointer (some ⟨w.heap.size+1+1+1,0,none⟩)]) rfl (enters_of Tryz.func142 (by kernel_rfl) rfl) (encs:=λx=>#[tkV tk x]) (λ_=>rfl)
    (w.heap.size+1) (by omega) xs (λW=>∃l,Sb (w.heap.size+1) T e l st W) (Iv w.heap.size w tk) (by rw[hsz];exact Iv.own _ _ _) (λ_ _ _ h hk=>h.kb hk) hst ?E ?iter (λx=>.cells (tcs tk x).toArray 125)
    (λx bx=>{tmps:=#[.string T,undef,.pointer (some ⟨w.heap.size,0,none⟩),.pointer (some ⟨w.heap.size+1,0,none⟩),.pointer (some ⟨w.heap.size+1+1,0,none⟩),.pointer (some ⟨bx,0,none⟩),.string T,
      .int .i64 T.size,.bool false,undef,.string T,.agg #[.string T,.int .i64 0],.agg #[.string T,.int .i64 0,.int .i64 1,.bool false],
      .func (.func 142) #[] #[.pointer (some ⟨w.heap.size+1+1+1,0,none⟩)],tkV tk x,undef,undef,undef,undef,undef,undef,undef,undef,undef,undef,undef,undef],defers:=[]}) ?assign ?body ?done
  case E=>
    rintro W lp o' hl ⟨l,h⟩;exact⟨l,(World.putObj_heap_other (by omega)).trans h⟩
  case iter=>
    intro lp J W hb hJ hJI hY hJ0;refine(iter_in 2 (by omega) lp (w.heap.size+1+1+1) (w.heap.size+1) T L hT hlen tk ok (htok _ (by omega)) (by omega) xs J hJ ?_ hY e st hrun W (hsb.below hb (Nat.le_refl _)) hJ0);intro pre W hj;have hi:=hJI pre W hj;refine⟨?_,hi.gd hg rfl⟩;have:=hi.box;simp[World.cell?,this]
  case assign=>
    intro l x W K hK;unfold tkV tokV at*
    gi_wp2
    exact hK
  case body=>
    intro l pre x bx W hpl hi hbx hW;obtain⟨v,hv,hrow⟩:=hi.row;obtain⟨i0,hi0,hz0,hz1,hz2⟩:=info_parts infoTok;have HI0:Hid (Tryz.prog.info? 125=some i0):=hi0;have hW':W.heap[bx]? =some (.cells #[.int .i64 (tk x.1).kind,.int .i64 x.1,.int .i64 (tk x.1).to,.int .i64 x.2,.int .i64 (tk x.1).num,.string (tk x.1).text] 125 (0,0)):=hW;have c4:W.cell? ⟨w.heap.size+1+1,0,none⟩=some v:=by simp[World.cell?,hv]
    have t0:W.cell? ⟨bx,0,none⟩=some (.int .i64 (tk x.1).kind):=by simp[World.cell?,hW']
    have t1:W.cell? ⟨bx,1,none⟩=some (.int .i64 x.1):=by simp[World.cell?,hW']
    have t2:W.cell? ⟨bx,2,none⟩=some (.int .i64 (tk x.1).to):=by simp[World.cell?,hW']
    have t3:W.cell? ⟨bx,3,none⟩=some (.int .i64 x.2):=by simp[World.cell?,hW']
    have t4:W.cell? ⟨bx,4,none⟩=some (.int .i64 (tk x.1).num):=by simp[World.cell?,hW']
    have t5:W.cell? ⟨bx,5,none⟩=some (.string (tk x.1).text):=by simp[World.cell?,hW']
    have h1c:∀u ∈ [(.int .i64 (tk x.1).kind:Value),.int .i64 x.1,.int .i64 (tk x.1).to,.int .i64 x.2,.int .i64 (tk x.1).num,.string (tk x.1).text],u.oneCell'=true:=by intro u hu;simp at hu;rcases hu with rfl|rfl|rfl|rfl|rfl|rfl<;>rfl
    have howna:∀o:Obj,(W.alloc o).ownsRow (w.heap.size+4) 125 6 v pre.length (pre.flatMap (tcs tk)):=λo=>hrow.alloc o;have hsW:=hi.size;have hpb:pre.length+1<=65536:=by omega
    have behind : ∀ (o : Obj) (v' : Value) (w1 : World), w1.ownsRow (w.heap.size + 4) 125 6 v' (pre.length + 1) (pre.flatMap (tcs tk) ++ [.int .i64 (tk x.1).kind, .int .i64 x.1, .int .i64 (tk x.1).to, .int .i64 x.2, .int .i64 (tk x.1).num, .string (tk x.1).text]) → (W.alloc o).grownBy w1 v.ownBlock →
        w1.cell? ⟨w.heap.size+1+1,0,none⟩=some v/\w1.frozen? ⟨w.heap.size+1+1,0,none⟩=false/\
        bodyEnd w4.heap.size (w.heap.size+1) (Iv w.heap.size w tk) (pre++[x]) W .normal {tmps:=#[],defers:=[]} (w1.setCell ⟨w.heap.size+1+1,0,none⟩ v'):=by
      intro o v' w1 ho hgr
      have hblk:∀i,i<w.heap.size+4->w1.heap[i]? =W.heap[i]?:=λi hi4=>by
        refine(hgr.block i (by simp;omega) (λe2=>?_)).trans (Below.heap_alloc _ _ _ (by omega));have:=(hrow.lt i e2.symm).1;omega
      have hf:w1.heap[w.heap.size+2]? =some (.cells #[v] 172 (0,0)):=(hblk _ (by omega)).trans hv;have hse:∀i,i≠w.heap.size+2->(w1.setCell ⟨w.heap.size+1+1,0,none⟩ v').heap[i]? =w1.heap[i]?:=λi hne=>Below.heap_setCell w1 _ _ _ hne;refine⟨by simp[World.cell?,hf],by simp[World.frozen?,hf],⟨?_,?_⟩,?_,?_⟩
      · have:=hgr.size;simp at this⊢;omega
      · intro k o2 hk hko hc;rw[hse k (by omega)];refine(hgr.block k (by have:=(Array.getElem?_eq_some_iff.1 hko).1;simp;omega) (λe2=>?_)).trans ((Below.heap_alloc _ _ _ (Array.getElem?_eq_some_iff.1 hko).1).trans hko);rcases hrow.2 with⟨rfl,_⟩|⟨g',cap,cur,e3,_,e4,_⟩
        · cases e2
        · rw[e3]at e2;cases e2;rw[e4]at hko;cases hko;cases hc
      · refine⟨hgr.os.trans hi.os,hgr.output.trans hi.output,?_,λi hi2=>?_,?_,?_,v',?_,?_⟩
        · have:=hgr.size;simp at this⊢;omega
        · rw[hse i (by omega)];exact(hblk i (by omega)).trans (hi.old i hi2)
        · rw[hse _ (by omega)];exact(hblk _ (by omega)).trans hi.res
        · rw[hse _ (by omega)];exact(hblk _ (by omega)).trans hi.box
        · simp[World.setCell,Array.getElem?_modify,hf]
        · rw[List.length_append,List.flatMap_append];refine rowBlk (W:=w1) (by simpa [tcs]using ho) (λg' e2=>hse g' ?_);have:=(ho.lt g' e2).1;omega
      · rw[hse _ (by omega)];exact hblk _ (by omega)
    have HBH : Hid (∀ (o : Obj) (v' : Value) (w1 : World), w1.ownsRow (w.heap.size + 4) 125 6 v' (pre.length + 1) (pre.flatMap (tcs tk) ++ [.int .i64 (tk x.1).kind, .int .i64 x.1, .int .i64 (tk x.1).to, .int .i64 x.2, .int .i64 (tk x.1).num, .string (tk x.1).text]) → (W.alloc o).grownBy w1 v.ownBlock →
        w1.cell? ⟨w.heap.size+1+1,0,none⟩=some v/\w1.frozen? ⟨w.heap.size+1+1,0,none⟩=false/\
        bodyEnd w4.heap.size (w.heap.size+1) (Iv w.heap.size w tk) (pre++[x]) W .normal {tmps:=#[],defers:=[]} (w1.setCell ⟨w.heap.size+1+1,0,none⟩ v')):=behind
    clear behind hW hW' hv hrow hi hst hsb hrun ok htok hg hT hi0
    gi_wp2_with (gi_at_builtin;refine wpListIn_append_own _ rfl (.tmp 15) (.tmp 17) 172 rfl (w.heap.size+4) 125 i0 (.agg #[.int .i64 0,.int .i64 0,.int .i64 0,.int .i64 0,.int .i64 0,.string ⟨#[]⟩]) 6 56 Tryz.underlying172 HI0 hz0 hz1 hz2 rfl (by decide) _ _ _ rfl (howna _) ⟨W.heap.size,0,none⟩ 1 1 [.int .i64 (tk x.1).kind,.int .i64 x.1,.int .i64 (tk x.1).to,.int .i64 x.2,.int .i64 (tk x.1).num,.string (tk x.1).text] rfl rfl (qr_cells W #[.int .i64 (tk x.1).kind,.int .i64 x.1,.int .i64 (tk x.1).to,.int .i64 x.2,.int .i64 (tk x.1).num,.string (tk x.1).text] 125 _ rfl) h1c (by unfold maxLen;omega) (by omega) (by simp;omega) ?_;intro v' w1 hown1 hgrow1 _;obtain⟨g',cap',rfl⟩:=ownsRow_succ hown1;obtain⟨d4,z4,hfin⟩:=HBH _ _ _ hown1 hgrow1;clear HBH hown1 hgrow1 c4)
    exact hfin
  case done=>
    rintro D W hD hi ⟨l,hS⟩ hK;obtain⟨v,hv,hrow⟩:=hi.row;have hres:=hi.res;have c3:=hS.c3;have c1:=hS.c1;have c4:W.cell? ⟨w.heap.size+1+1,0,none⟩=some v:=by simp[World.cell?,hv]
    have r0:W.cell? ⟨w.heap.size,0,none⟩=some (.bool false):=by simp[World.cell?,hres]
    have r1:W.cell? ⟨w.heap.size,1,none⟩=some (.int .i64 0):=by simp[World.cell?,hres]
    have r2:W.cell? ⟨w.heap.size,2,none⟩=some (.slice none 0 0):=by simp[World.cell?,hres]
    have q0:W.frozen? ⟨w.heap.size,0,none⟩=false:=by simp[World.frozen?,hres]
    have q1:W.frozen? ⟨w.heap.size,1,none⟩=false:=by simp[World.frozen?,hres]
    have q2:W.frozen? ⟨w.heap.size,2,none⟩=false:=by simp[World.frozen?,hres]
    have hsW:=hi.size
    have HFIN : Hid (∀ W5 : World, W5.os = W.os → W5.output = W.output → W5.heap.size = W.heap.size → (∀ i, i ≠ w.heap.size → W5.heap[i]? = W.heap[i]?) →
        w.keptBut (W5.putObj D (.deferred none)) (λ_=>False)/\(W5.putObj D (.deferred none)).ownsRow w.heap.size 125 6 v xs.length (xs.flatMap (tcs tk))):=
      (λW5 h1 h2 h3 h4=>by
        constructor
        · have hkb : Kb W5.heap.size w (W5.putObj D (.deferred none)) := by
            refine⟨h1.trans hi.os,h2.trans hi.output,by simp;omega,λi hi2 _=>?_⟩;rw[World.putObj_heap_other (by omega),h4 i (by omega)];exact hi.old i hi2
          exact hkb.kept (by omega)
        · refine rowBlk (W:=W) (ownsRow_mono' hrow (by omega)) (λg' e2=>?_);have h5:=(hrow.lt g' e2).1
          have hne:g'≠D:=λe3=>by
            subst e3;rcases hrow.2 with⟨rfl,_⟩|⟨g2,cap,cur,e3,_,e4,_⟩
            · cases e2
            · rw[e3]at e2;cases e2;rw[e4]at hK;cases hK
          rw[World.putObj_heap_other hne,h4 g' (by omega)]:∀W5:World,W5.os=W.os->W5.output=W.output->W5.heap.size=W.heap.size->(∀i,i≠w.heap.size->W5.heap[i]? =W.heap[i]?)->
        w.keptBut (W5.putObj D (.deferred none)) (λ_=>False)/\(W5.putObj D (.deferred none)).ownsRow w.heap.size 125 6 v xs.length (xs.flatMap (tcs tk)))
    cases st with
    |true=>
      clear hi hv hrow hrun ok htok hg hT hst hsb hS
      gi_wp2_with fail
      obtain⟨W5,hW5⟩:∃W5,W5=st3 W w.heap.size (.bool false) (.int .i64 e) (.slice none 0 0):=⟨_,rfl⟩
      have h5:W5.heap[w.heap.size]? =some (.cells #[.bool false,.int .i64 e,.slice none 0 0] 174 (0,0)):=by rw[hW5];exact st3_heap hres _ _ _
      have hK5:W5.heap[D]? =some (.deferred (some [])):=by rw[hW5,st3_other _ _ _ _ (by omega)];exact hK
      have hF5:=HFIN W5 (by rw[hW5];rfl) (by rw[hW5];rfl) (by rw[hW5];simp[st3]) (λi hi=>by rw[hW5];exact st3_other _ _ _ i hi);have hW5':(((W.setCell ⟨w.heap.size,0,none⟩ (.bool false)).setCell ⟨w.heap.size,1,none⟩ (.int .i64 e)).setCell ⟨w.heap.size,2,none⟩ (.slice none 0 0))=W5:=hW5.symm;rw[hW5']
      have g0:(W5.putObj D (.deferred none)).cell? ⟨w.heap.size,0,none⟩=some (.bool false):=by
        rw[World.cell?_of_block (w:=W5) (World.putObj_heap_other (by show w.heap.size≠D;omega))];simp[World.cell?,h5]
      have g1:(W5.putObj D (.deferred none)).cell? ⟨w.heap.size,1,none⟩=some (.int .i64 e):=by
        rw[World.cell?_of_block (w:=W5) (World.putObj_heap_other (by show w.heap.size≠D;omega))];simp[World.cell?,h5]
      have g2:(W5.putObj D (.deferred none)).cell? ⟨w.heap.size,2,none⟩=some (.slice none 0 0):=by
        rw[World.cell?_of_block (w:=W5) (World.putObj_heap_other (by show w.heap.size≠D;omega))];simp[World.cell?,h5]
      refine⟨by simp,.inl ⟨_,_,rfl,run_takeDeferred hK5,?_⟩⟩;refine⟨_,by simp[results,Tryz.results133,go_sem,g0,g1,g2];rfl,?_⟩;exact⟨hF5.1,.slice none 0 0,rfl,λh=>by cases h⟩
    |false=>
      have hsh:∃(ad:Option Addr) (nn cap:Nat),v=.slice ad nn cap:=by
        rcases hrow.2 with⟨h1,_⟩|⟨g2,cap,cur,e3,_⟩
        · exact⟨none,0,0,h1⟩
        · exact⟨_,_,_,e3⟩
      obtain⟨ad,nn,cap,rfl⟩:=hsh;clear hi hv hrow hrun ok htok hg hT hst hsb hS
      gi_wp2_with fail
      obtain⟨W5,hW5⟩:∃W5,W5=st3 W w.heap.size (.bool true) (.int .i64 0) (.slice ad nn cap):=⟨_,rfl⟩
      have h5:W5.heap[w.heap.size]? =some (.cells #[.bool true,.int .i64 0,.slice ad nn cap] 174 (0,0)):=by rw[hW5];exact st3_heap hres _ _ _
      have hK5:W5.heap[D]? =some (.deferred (some [])):=by rw[hW5,st3_other _ _ _ _ (by omega)];exact hK
      have hF5:=HFIN W5 (by rw[hW5];rfl) (by rw[hW5];rfl) (by rw[hW5];simp[st3]) (λi hi=>by rw[hW5];exact st3_other _ _ _ i hi);have hW5':(((W.setCell ⟨w.heap.size,0,none⟩ (.bool true)).setCell ⟨w.heap.size,1,none⟩ (.int .i64 0)).setCell ⟨w.heap.size,2,none⟩ (.slice ad nn cap))=W5:=hW5.symm;rw[hW5']
      have g0:(W5.putObj D (.deferred none)).cell? ⟨w.heap.size,0,none⟩=some (.bool true):=by
        rw[World.cell?_of_block (w:=W5) (World.putObj_heap_other (by show w.heap.size≠D;omega))];simp[World.cell?,h5]
      have g1:(W5.putObj D (.deferred none)).cell? ⟨w.heap.size,1,none⟩=some (.int .i64 0):=by
        rw[World.cell?_of_block (w:=W5) (World.putObj_heap_other (by show w.heap.size≠D;omega))];simp[World.cell?,h5]
      have g2:(W5.putObj D (.deferred none)).cell? ⟨w.heap.size,2,none⟩=some (.slice ad nn cap):=by
        rw[World.cell?_of_block (w:=W5) (World.putObj_heap_other (by show w.heap.size≠D;omega))];simp[World.cell?,h5]
      refine⟨by simp,.inl ⟨_,_,rfl,run_takeDeferred hK5,?_⟩⟩;refine⟨_,by simp[results,Tryz.results133,go_sem,g0,g1,g2];rfl,?_⟩;exact⟨hF5.1,.slice ad nn cap,rfl,hF5.2⟩
end Go.Proofs.YtkhdehngobkkfaaGreatDoor
namespace Go.Proofs.YtkhdehngobkkfaaGreatDoor
open Go.ChangeShapes Go.WideShapes Go.ChangeAt Go.RowKit
set_option linter.unusedVariables false
variable {L acc t:List UInt8}{j B:Nat}{v v':Value}{W w W' w1:World}{l:Int}{T:ByteArray}{st:Bool}{o:Obj}
theorem Elt.byte{ok:Bool}{v:Int}{e:Nat}(h:Elt L j ok v e):∃b:UInt8,v=(b.toNat:Int):=by
  have key:∀n:Nat,n<256->∃b:UInt8,(n:Int)=(b.toNat:Int):=λn hn=>⟨UInt8.ofNat n,by simp;omega⟩
  cases h with
  |plain x h hx=>exact⟨x,rfl⟩
  | simple c v h hc hv => rcases hv with ⟨_, rfl⟩ | ⟨_, rfl⟩ | ⟨_, rfl⟩ | ⟨_, rfl⟩
                          · exact⟨10,rfl⟩
                          · exact⟨9,rfl⟩
                          · exact⟨34,rfl⟩
                          · exact⟨92,rfl⟩
  |hex x y h hc hx hxd hy hyd=>
    obtain⟨b,hb⟩:=key (Rd.dw x*16+Rd.dw y) (by omega);exact⟨b,by rw[<-hb];simp⟩
  |hexA h hc hno=>exact⟨0,rfl⟩
  |hexB x h hc hx hxd hno=>exact⟨0,rfl⟩
  |none h hc=>exact⟨0,rfl⟩
inductive Sr (L:List UInt8):Nat->List UInt8->Bool->Nat->List UInt8->Prop
 |fin (j:Nat) (acc:List UInt8) (h:L.length<=j):Sr L j acc false j []
 |nl (j:Nat) (acc:List UInt8) (h:L[j]? =some 10):Sr L j acc false j []
 |quote (j:Nat) (acc:List UInt8) (h:L[j]? =some 34):Sr L j acc true (j+1) acc
 |bad (j:Nat) (acc:List UInt8) (x:UInt8) (v:Int) (e:Nat) (h:L[j]? =some x) (hx:x≠34/\x≠10) (he:Elt L j false v e):Sr L j acc false e []
 |step (j:Nat) (acc:List UInt8) (x b:UInt8) (e:Nat) (ok:Bool) (to:Nat) (t:List UInt8) (h:L[j]? =some x) (hx:x≠34/\x≠10) (he:Elt L j true (b.toNat:Int) e) (hr:Sr L e (acc++[b]) ok to t):Sr L j acc ok to t
theorem sr_any (L:List UInt8):∀(n j:Nat) (acc:List UInt8),L.length-j<=n->∃ok to t,Sr L j acc ok to t
 |n,j,acc,hn=>by
  rcases Nat.lt_or_ge j L.length with hj|hj
  ·have hx:=List.getElem?_eq_getElem hj;by_cases h34:L[j]=34
   ·rw[h34]at hx;exact⟨_,_,_,.quote j acc hx⟩
   ·by_cases h10:L[j]=10
    ·rw[h10]at hx;exact⟨_,_,_,.nl j acc hx⟩
    ·obtain⟨ok,v,e,he⟩:=elt_any L j hj;obtain⟨b,rfl⟩:=he.byte;cases ok with
     |false=>exact⟨_,_,_,.bad j acc _ _ e hx ⟨h34,h10⟩ he⟩
     |true=>
      have:=he.gt;cases n with
      |zero=>omega
      |succ n=>
       obtain⟨ok,to,t,hr⟩:=sr_any L n e (acc++[b]) (by omega);exact⟨ok,to,t,.step j acc _ b e ok to t hx ⟨h34,h10⟩ he hr⟩
  ·exact⟨_,_,_,.fin j acc hj⟩
theorem Sr.inv{ok:Bool}{to:Nat}(h:Sr L j acc ok to t):
  (L.length<=j/\ok=false/\to=j/\t=[])\/(L[j]? =some 10/\ok=false/\to=j/\t=[])\/(L[j]? =some 34/\ok=true/\to=j+1/\t=acc)\/
  (∃x v,L[j]? =some x/\x≠34/\x≠10/\Elt L j false v to/\ok=false/\t=[])\/(∃(x b:UInt8) (e:Nat),L[j]? =some x/\x≠34/\x≠10/\Elt L j true (b.toNat:Int) e/\Sr L e (acc++[b]) ok to t):=by
 cases h with
 |fin _ _ h=>exact .inl ⟨h,rfl,rfl,rfl⟩
 |nl _ _ h=>exact .inr (.inl ⟨h,rfl,rfl,rfl⟩)
 |quote _ _ h=>exact .inr (.inr (.inl ⟨h,rfl,rfl,rfl⟩))
 |bad _ _ x v e h hx he=>exact .inr (.inr (.inr (.inl ⟨x,v,h,hx.1,hx.2,he,rfl,rfl⟩)))
 |step _ _ x b e _ _ _ h hx he hr=>exact .inr (.inr (.inr (.inr ⟨x,b,e,h,hx.1,hx.2,he,hr⟩)))
theorem Sr.le{ok:Bool}{to:Nat}(h:Sr L j acc ok to t):j<=L.length->j<=to/\to<=L.length/\(ok=false->t=[])/\t.length<=acc.length+(L.length-j):=by
 induction h with
 |fin j acc h=>intro hj;exact⟨Nat.le_refl _,hj,λ_=>rfl,by simp⟩
 |nl j acc h=>intro hj;exact⟨Nat.le_refl _,hj,λ_=>rfl,by simp⟩
 |quote j acc h=>intro hj;have:=(List.getElem?_eq_some_iff.1 h).1;exact⟨by omega,by omega,(λh=>by cases h),by omega⟩
 |bad j acc x v e h hx he=>intro hj;have:=he.gt;have:=he.le;exact⟨by omega,by omega,λ_=>rfl,by simp⟩
 |step j acc x b e ok to t h hx he hr ih=>
  intro hj;have h1:=he.gt;have h2:=he.le;obtain⟨i1,i2,i3,i4⟩:=ih h2;refine⟨by omega,i2,i3,?_⟩;rw[List.length_append]at i4;simp at i4;omega
theorem conv_any{base:Nat}{l:List UInt8}(h:W.ownsRow base 5 1 v l.length (Lib.byteCells l)):(convert 38 9 v).run Tryz.prog W=.ok (.string ⟨l.toArray⟩) W:=by
 rcases h.2 with⟨rfl,h0⟩|⟨g,cap,cur,rfl,_⟩
 ·have:l=[]:=List.eq_nil_of_length_eq_zero h0;subst this;exact Lib.run_convert_nil_bytes W 38 9 5 0 Tryz.underlying38 Tryz.underlying5 Tryz.underlying9
 ·refine run_convert_bytes_back W 38 9 5 _ cap l Tryz.underlying38 Tryz.underlying5 Tryz.underlying9 (λj hj=>?_);exact h.cells (g:=g) rfl j (.int .u8 (l[j].toNat:Int)) (by simp[Lib.byteCells,hj])
theorem Mz.start1{k:Int}(h:Sb B T k l st w)(k':Int):Mz B w.heap.size T k' l st w ((w.setCell ⟨B,1,none⟩ (.int .i64 k')).alloc (.cells #[.int .i64 0,.int .i64 0,.int .i64 0,.int .i64 0,.int .i64 0,.string ⟨#[]⟩] 125)):=by
 have e:(w.setCell ⟨B,1,none⟩ (.int .i64 k')).heap.size=w.heap.size:=by simp
 refine⟨⟨((Kb.refl B w).setCell 1 _).alloc _,?_⟩,?_⟩
 ·exact(Below.heap_alloc _ _ _ (by have:=h.lt;omega)).trans (h.set1 k')
 ·have:=Rz.new (w.setCell ⟨B,1,none⟩ (.int .i64 k'));rw[e]at this;exact this
structure Ms (w:World) (B:Nat) (T:ByteArray) (j l:Int) (st:Bool) (acc:List UInt8) (v:Value) (W:World):Prop where
 mz:Mz B w.heap.size T j l st w W
 row:W.ownsRow (w.heap.size+1) 5 1 v acc.length (Lib.byteCells acc)
theorem Ms.mv{j:Int}{j':Int}(h:Ms w B T j l st acc v W)(hB:B<w.heap.size)(g:Mv B T j' l st W W'):Ms w B T j' l st acc v W':=
 ⟨h.mz.trans g (by omega),rowKb h.row g.1 (by omega)⟩
theorem Ms.add{j:Int}(b:UInt8)(h:Ms w B T j l st acc v W)(hB:B<w.heap.size)
  (ho:w1.ownsRow (w.heap.size+1) 5 1 v' (acc.length+1) (Lib.byteCells acc++Lib.byteCells [b])) (hg:(W.alloc o).grownBy w1 v.ownBlock):Ms w B T j l st (acc++[b]) v' w1:=by
 have hs:=h.mz.2.lt;have hblk:∀i,i<w.heap.size+1->w1.heap[i]? =W.heap[i]?:=λi hi=>(hg.block i (by simp;omega) (λe2=>by have:=(h.row.lt i e2.symm).1;omega)).trans (Below.heap_alloc _ _ _ (by omega));have hgs:=hg.size;refine⟨⟨⟨⟨hg.os.trans h.mz.1.1.os,hg.output.trans h.mz.1.1.output,?_,λi hi hn=>?_⟩,?_⟩,?_⟩,?_⟩
 ·simp at hgs;omega
 ·rw[hblk i (by omega)];exact h.mz.1.1.block i hi hn
 ·exact(hblk B (by omega)).trans h.mz.1.2
 ·exact(hblk _ (by omega)).trans h.mz.2
 ·rw[List.length_append,bc_append];exact ho
theorem impl_str(L:List UInt8)(hT:T.data.toList=L){k:Nat}(hlen:T.size<=65536)(hk:k<L.length)(hB:12<=B){ok:Bool}{to:Nat}(hr:Sr L (k+1) [] ok to t)(kd:Int)(hkd:kd=if ok=true then 4 else 0)(w:World)(h:Sb B T k l st w):
  Calls Tryz.prog 163 #[.pointer (some ⟨B,0,none⟩)] w λe w'=>e=.returned (tokV kd 0 0 0 0 ⟨t.toArray⟩)/\Mv B T (to:Int) l st w w':=by
 have hs:T.size=L.length:=by rw[<-hT];simp
 obtain⟨M,hM,hLM⟩:∃M:Int,M<=65536/\(L.length:Int)<=M:=⟨L.length,by omega,Int.le_refl _⟩
 have hBlt:B<w.heap.size:=h.lt;have hnB:w.heap.size≠B:=by omega
 obtain⟨i0,hi0,hz0,hz1,hz2⟩:=info_parts info5;have HI0:Hid (Tryz.prog.info? 5=some i0):=hi0;have c1:=h.c1;have f1:=h.fz 1;have hkM:(k:Int)<=M:=by omega
 have hz:=Mz.start1 h ((k:Int)+1);have HS:Hid (Mz B w.heap.size T ((k+1:Nat):Int) l st w ((w.setCell ⟨B,1,none⟩ (.int .i64 ((k:Int)+1))).alloc (.cells #[.int .i64 0,.int .i64 0,.int .i64 0,.int .i64 0,.int .i64 0,.string ⟨#[]⟩] 125))):=hz;have HR:Hid (Sr L (k+1) [] ok to t):=hr;have HKD:Hid (kd=if ok=true then 4 else 0):=hkd;have HLN:Hid (T.size<=65536/\T.data.toList=L):=(⟨hlen,hT⟩:_/\_)
 clear hT hlen h hz hr hi0 hkd;go_enter Tryz.func163,Tryz.ntmps163;go_wp2_with fail;clear c1 f1
 go_loopw [3] (λs wr=>∃(j:Nat) (acc:List UInt8) (v:Value),v=s/\j<=L.length/\Hid (Ms w B T j l st acc v wr/\Sr L j acc ok to t/\acc.length<=j)) (λ_ wr=>L.length-atOf B wr)
 case atStart=>exact⟨k+1,[],.slice none 0 0,rfl,by omega,(⟨⟨HS,World.ownsRow_nil _ _ _ _⟩,HR,by simp⟩:_/\_/\_)⟩
 case round=>
  clear HS HR;obtain⟨j,acc,v,hv,hj,HR⟩:=hrel;subst hv;obtain⟨hMs,hr,hac⟩:=(uh HR)
  clear HR;obtain⟨hlen,hT⟩:=(uh HLN)
  have hat:=atOf_sb hMs.mz.1.2;rcases hr.inv with⟨r1,r2,r3,r4⟩|⟨r1,r2,r3,r4⟩|⟨r1,r2,r3,r4⟩|⟨x,ev,r1,r2,r3,r4,r5,r6⟩|⟨x,b,ee,r1,r2,r3,r4,r5⟩
  ·have he:=ended_mv true (by simp;omega) wr hMs.mz.1.2;have HOK:Hid (ok=false/\t=[]):=(⟨r2,r4⟩:_/\_)
   have HQ:Hid (∀w1,Mv B T (j:Int) l st wr w1->Mz B w.heap.size T (to:Int) l st w w1):=(λw1 m1=>by rw[r3];exact hMs.mz.trans m1 hnB:∀w1,Mv B T (j:Int) l st wr w1->Mz B w.heap.size T (to:Int) l st w w1)
   clear hMs hr hT hlen r1 r2 r3 r4 hat HLN;go_wp2_with fail;refine he.mono ?_;rintro en w1 ⟨rfl,m1⟩;have hq:=(uh HQ) w1 m1;clear he HQ m1;have z3:=hq.2;obtain⟨g0,g1,g2,g3,g4,g5,y0,y1,y2,y3,y4,y5,e0,e1,e2,e3,e4,e5⟩:=z3.all;have HM4:Hid (Mv B T (to:Int) l st w w1):=hq.1;clear hq z3;go_wp2_with fail;refine bodyPost_ret (by simp[results,Tryz.results163,go_sem,e0,e1,e2,e3,e4,e5];rfl) rfl ?_;have hEE:=(uh HOK)
   have hKD:=(uh HKD)
   rw[hEE.1,if_neg (by decide)]at hKD;rw[hKD,hEE.2];exact⟨rfl,st6_mv HM4 (Nat.le_refl _) hnB _ _ _ _ _ _⟩
  ·have hjn:j<L.length:=(List.getElem?_eq_some_iff.1 r1).1;have he:=ended_mv false (by simp;omega) wr hMs.mz.1.2;have hse:=λw1 (m1:Mv B T (j:Int) l st wr w1)=>sees_mv ⟨#[10]⟩ true (by omega) (by rw[hT];exact(pre_one L j 10).2 r1) w1 m1.2;have HOK:Hid (ok=false/\t=[]):=(⟨r2,r4⟩:_/\_)
   have HQ:Hid (∀w1,Mv B T (j:Int) l st wr w1->Mz B w.heap.size T (to:Int) l st w w1):=(λw1 m1=>by rw[r3];exact hMs.mz.trans m1 hnB:∀w1,Mv B T (j:Int) l st wr w1->Mz B w.heap.size T (to:Int) l st w w1)
   clear hMs hr hT hlen r1 r2 r3 r4 hat HLN;go_wp2_with fail;refine he.mono ?_;rintro en w1 ⟨rfl,m1⟩;have hs1:=hse w1 m1;clear he hse;go_wp2_with fail;refine hs1.mono ?_;rintro en w2 ⟨rfl,m2⟩;have hq:=(uh HQ) w2 (m1.trans m2);clear hs1 HQ m1 m2;have z3:=hq.2;obtain⟨g0,g1,g2,g3,g4,g5,y0,y1,y2,y3,y4,y5,e0,e1,e2,e3,e4,e5⟩:=z3.all;have HM4:Hid (Mv B T (to:Int) l st w w2):=hq.1;clear hq z3;go_wp2_with fail;refine bodyPost_ret (by simp[results,Tryz.results163,go_sem,e0,e1,e2,e3,e4,e5];rfl) rfl ?_;have hEE:=(uh HOK)
   have hKD:=(uh HKD)
   rw[hEE.1,if_neg (by decide)]at hKD;rw[hKD,hEE.2];exact⟨rfl,st6_mv HM4 (Nat.le_refl _) hnB _ _ _ _ _ _⟩
  ·have hjn:j<L.length:=(List.getElem?_eq_some_iff.1 r1).1;have he:=ended_mv false (by simp;omega) wr hMs.mz.1.2;have hse:=λw1 (m1:Mv B T (j:Int) l st wr w1)=>sees_mv ⟨#[10]⟩ false (by omega) (by rw[hT,Bool.eq_false_iff];intro g;have g2:=(pre_one L j 10).1 g;rw[r1]at g2;cases g2) w1 m1.2;have htk:=λw1 (m1:Mv B T (j:Int) l st wr w1)=>take_mv (k:=j) 34 34 rfl true (j+1) hlen (by omega) (by rw[hT];exact .inl ⟨r1,rfl,rfl⟩) w1 m1.2
   have HQ:Hid (∀w1,Mv B T ((j+1:Nat):Int) l st wr w1->Mz B w.heap.size T (to:Int) l st w w1/\(convert 38 9 v).run Tryz.prog w1=.ok (.string ⟨t.toArray⟩) w1):=(λw1 m1=>by
    have:=hMs.mv hBlt m1;refine⟨by rw[r3];exact this.mz,?_⟩;rw[r4]
    exact conv_any this.row:∀w1,Mv B T ((j+1:Nat):Int) l st wr w1->Mz B w.heap.size T (to:Int) l st w w1/\(convert 38 9 v).run Tryz.prog w1=.ok (.string ⟨t.toArray⟩) w1)
   have HOK:Hid (ok=true):=r2;clear hMs hr hT hlen r1 r2 r3 r4 hat HLN;go_wp2_with fail;refine he.mono ?_;rintro en w1 ⟨rfl,m1⟩;have hs1:=hse w1 m1;clear he hse;go_wp2_with fail;refine hs1.mono ?_;rintro en w2 ⟨rfl,m2⟩;have m12:=m1.trans m2;have ht1:=htk w2 m12;clear hs1 m1 m2 htk;go_wp2_with fail;refine ht1.mono ?_;rintro en w3 ⟨rfl,m3⟩;have m13:=m12.trans m3;clear ht1 m12 m3;obtain⟨hq,hcv⟩:=(uh HQ) w3 m13;clear HQ m13;have z3:=hq.2;obtain⟨g0,g1,g2,g3,g4,g5,y0,y1,y2,y3,y4,y5,e0,e1,e2,e3,e4,e5⟩:=z3.all;have HM4:Hid (Mv B T (to:Int) l st w w3):=hq.1;clear hq z3;go_wp2_with fail;refine bodyPost_ret (by simp[results,Tryz.results163,go_sem,e0,e1,e2,e3,e4,e5];rfl) rfl ?_;have hEE:=(uh HOK)
   have hKD:=(uh HKD)
   rw[hEE,if_pos rfl]at hKD;rw[hKD];exact⟨rfl,st6_mv HM4 (Nat.le_refl _) hnB _ _ _ _ _ _⟩
  ·have hjn:j<L.length:=(List.getElem?_eq_some_iff.1 r1).1;have he:=ended_mv false (by simp;omega) wr hMs.mz.1.2;have hse:=λw1 (m1:Mv B T (j:Int) l st wr w1)=>sees_mv ⟨#[10]⟩ false (by omega) (by rw[hT,Bool.eq_false_iff];intro g;have g2:=(pre_one L j 10).1 g;rw[r1]at g2;exact r3 (Option.some.inj g2)) w1 m1.2;have htk:=λw1 (m1:Mv B T (j:Int) l st wr w1)=>take_mv (k:=j) 34 34 rfl false j hlen (by omega) (by rw[hT];exact .inr ⟨by rw[r1];intro g;exact r2 (Option.some.inj g),rfl,rfl⟩) w1 m1.2;have hel:=λw1 (m1:Mv B T (j:Int) l st wr w1)=>impl_elt L hT hlen r4 w1 m1.2;have HOK:Hid (ok=false/\t=[]):=(⟨r5,r6⟩:_/\_)
   have HQ:Hid (∀w1,Mv B T (to:Int) l st wr w1->Mz B w.heap.size T (to:Int) l st w w1):=(λw1 m1=>hMs.mz.trans m1 hnB:∀w1,Mv B T (to:Int) l st wr w1->Mz B w.heap.size T (to:Int) l st w w1)
   clear hMs hr hT hlen r1 r2 r3 r4 r5 r6 hat HLN;go_wp2_with fail;refine he.mono ?_;rintro en w1 ⟨rfl,m1⟩;have hs1:=hse w1 m1;clear he hse;go_wp2_with fail;refine hs1.mono ?_;rintro en w2 ⟨rfl,m2⟩;have m12:=m1.trans m2;have ht1:=htk w2 m12;clear hs1 m1 m2 htk;go_wp2_with fail;refine ht1.mono ?_;rintro en w3 ⟨rfl,m3⟩;have m13:=m12.trans m3;clear ht1 m12 m3;have hel1:=hel w3 m13;clear hel;go_wp2_with fail;refine hel1.mono ?_;rintro en w4 ⟨rfl,m4⟩;have hq:=(uh HQ) w4 (m13.trans m4);clear hel1 HQ m13 m4;have z3:=hq.2;obtain⟨g0,g1,g2,g3,g4,g5,y0,y1,y2,y3,y4,y5,e0,e1,e2,e3,e4,e5⟩:=z3.all;have HM4:Hid (Mv B T (to:Int) l st w w4):=hq.1;clear hq z3;go_wp2_with fail;refine bodyPost_ret (by simp[results,Tryz.results163,go_sem,e0,e1,e2,e3,e4,e5];rfl) rfl ?_;have hEE:=(uh HOK)
   have hKD:=(uh HKD)
   rw[hEE.1,if_neg (by decide)]at hKD;rw[hKD,hEE.2];exact⟨rfl,st6_mv HM4 (Nat.le_refl _) hnB _ _ _ _ _ _⟩
  ·have hjn:j<L.length:=(List.getElem?_eq_some_iff.1 r1).1;have he:=ended_mv false (by simp;omega) wr hMs.mz.1.2;have hse:=λw1 (m1:Mv B T (j:Int) l st wr w1)=>sees_mv ⟨#[10]⟩ false (by omega) (by rw[hT,Bool.eq_false_iff];intro g;have g2:=(pre_one L j 10).1 g;rw[r1]at g2;exact r3 (Option.some.inj g2)) w1 m1.2;have htk:=λw1 (m1:Mv B T (j:Int) l st wr w1)=>take_mv (k:=j) 34 34 rfl false j hlen (by omega) (by rw[hT];exact .inr ⟨by rw[r1];intro g;exact r2 (Option.some.inj g),rfl,rfl⟩) w1 m1.2;have hel:=λw1 (m1:Mv B T (j:Int) l st wr w1)=>impl_elt L hT hlen r4 w1 m1.2;have hgt:=r4.gt;have hle:=r4.le;have HQ:Hid (∀w1,Mv B T (ee:Int) l st wr w1->Ms w B T (ee:Int) l st acc v w1):=(λw1 m1=>hMs.mv hBlt m1:∀w1,Mv B T (ee:Int) l st wr w1->Ms w B T (ee:Int) l st acc v w1)
   have HSR:Hid (Sr L ee (acc++[b]) ok to t):=r5;have h1c:=bc_one [b];have hbc:Lib.byteCells [b]=[.int .u8 b.toNat]:=rfl;rw[hbc]at h1c;clear hMs hr hT hlen r1 r2 r3 r4 r5 HLN;generalize hbi:(b.toNat:Int)=bi at*;go_wp2_with fail;refine he.mono ?_;rintro en w1 ⟨rfl,m1⟩;have hs1:=hse w1 m1;clear he hse;go_wp2_with fail;refine hs1.mono ?_;rintro en w2 ⟨rfl,m2⟩;have m12:=m1.trans m2;have ht1:=htk w2 m12;clear hs1 m1 m2 htk;go_wp2_with fail;refine ht1.mono ?_;rintro en w3 ⟨rfl,m3⟩;have m13:=m12.trans m3;clear ht1 m12 m3;have hel1:=hel w3 m13;clear hel;go_wp2_with fail;refine hel1.mono ?_;rintro en w4 ⟨rfl,m4⟩;have hq:=(uh HQ) w4 (m13.trans m4);clear hel1 HQ m13 m4;have howna:∀o:Obj,(w4.alloc o).ownsRow (w.heap.size+1) 5 1 v acc.length (Lib.byteCells acc):=λo=>hq.row.alloc o;have hs4:=hq.mz.2.lt
   have HADD:Hid (∀(o:Obj) (v':Value) (w5:World),w5.ownsRow (w.heap.size+1) 5 1 v' (acc.length+1) (Lib.byteCells acc++[.int .u8 bi])->(w4.alloc o).grownBy w5 v.ownBlock->Ms w B T (ee:Int) l st (acc++[b]) v' w5):=
    (λo v' w5 ho hg=>hq.add b hBlt (by rw[hbc];exact ho) hg:∀(o:Obj) (v':Value) (w5:World),w5.ownsRow (w.heap.size+1) 5 1 v' (acc.length+1) (Lib.byteCells acc++[.int .u8 bi])->(w4.alloc o).grownBy w5 v.ownBlock->Ms w B T (ee:Int) l st (acc++[b]) v' w5)
   clear hq hbc;have hacb:acc.length<=L.length:=by omega
   have hLb:L.length<=65536:=by omega
   go_wp2_with (at_builtin;refine wpList_append_own _ rfl (.tmp 41) (.tmp 43) 38 rfl (w.heap.size+1) 5 i0 (.int .u8 0) 1 1 Tryz.underlying38 HI0 hz0 hz1 hz2 rfl (by decide) _ _ _ rfl (howna _) ⟨w4.heap.size,0,none⟩ 1 1 [.int .u8 bi] rfl rfl (qr_cells w4 #[.int .u8 bi] 5 _ rfl) h1c (by unfold maxLen;omega) (by omega) (by simp;omega) ?_;intro v' w5 hown1 hgrow1 _);have hM5:=(uh HADD) _ _ _ hown1 hgrow1;have hat5:=atOf_sb hM5.mz.1.2;have HM5:Hid (Ms w B T (ee:Int) l st (acc++[b]) v' w5/\Sr L ee (acc++[b]) ok to t/\(acc++[b]).length<=ee):=(⟨hM5,HSR,by rw[List.length_append];simp;omega⟩:_/\_/\_)
   clear HADD hown1 hgrow1 howna hM5 HSR;go_wp2_with fail;refine⟨⟨ee,acc++[b],v',rfl,hle,HM5⟩,?_⟩;rw[hat5,hat];omega
def TokS(T:ByteArray)(L:List UInt8)(tk:Nat->Tk):Prop:=∀(p:Nat) (w:World),p<L.length->Calls Tryz.prog 97 #[.string T,.int .i64 p] w λe w'=>Below w.heap.size w w'/\
 ((tk p).kind≠0->e=.returned (.tuple #[tokV (tk p).kind p (tk p).to 0 (tk p).num (tk p).text,.int .i64 (-1)]))/\((tk p).kind=0->∃a b c d n t,e=.returned (.tuple #[tokV a b c d n t,.int .i64 ((tk p).to:Int)]))
structure Ov (w:World) (tk:Nat->Tk) (pre:List (Nat×Int)) (v:Value) (W:World):Prop where
 bel:Below w.heap.size w W
 size:w.heap.size+2<=W.heap.size
 res:W.heap[w.heap.size]? =some (.cells #[.bool false,.int .i64 0,.slice none 0 0] 174 (0,0))
 out:W.heap[w.heap.size+1]? =some (.cells #[.bool true,.int .i64 0,v] 174 (0,0))
 row:W.ownsRow (w.heap.size+2) 125 6 v pre.length (pre.flatMap (tcs tk))
theorem Ov.below{tk:Nat->Tk}{pre:List (Nat×Int)}(h:Ov w tk pre v W)(hb:Below W.heap.size W W'):Ov w tk pre v W':=by
 have hs:=h.size;have h1:=h.bel.size;exact⟨h.bel.trans (hb.mono h1),Nat.le_trans hs hb.size,(hb.block _ (by omega)).trans h.res,(hb.block _ (by omega)).trans h.out,rowBlk h.row (λg e=>hb.block g (h.row.lt g e).2)⟩
theorem Ov.add{tk:Nat->Tk}{pre:List (Nat×Int)}(x:Nat×Int)(h:Ov w tk pre v W)(ho:w1.ownsRow (w.heap.size+2) 125 6 v' (pre.length+1) (pre.flatMap (tcs tk)++tcs tk x))(hg:(W.alloc o).grownBy w1 v.ownBlock):
  w1.cell? ⟨w.heap.size+1,2,none⟩=some v/\w1.frozen? ⟨w.heap.size+1,2,none⟩=false/\(∀i,i<W.heap.size->v.ownBlock≠some i->w1.heap[i]? =W.heap[i]?)/\Ov w tk (pre++[x]) v' (w1.setCell ⟨w.heap.size+1,2,none⟩ v'):=by
 have hs:=h.size;have hblk:∀i,i<W.heap.size->v.ownBlock≠some i->w1.heap[i]? =W.heap[i]?:=λi hi hne=>(hg.block i (by simp;omega) (λe2=>hne e2.symm)).trans (Below.heap_alloc _ _ _ hi);have hlow:∀i,i<w.heap.size+2->w1.heap[i]? =W.heap[i]?:=λi hi=>hblk i (by omega) (λe2=>by have:=(h.row.lt i e2).1;omega);have hf:=(hlow (w.heap.size+1) (by omega)).trans h.out;have hse:∀i,i≠w.heap.size+1->(w1.setCell ⟨w.heap.size+1,2,none⟩ v').heap[i]? =w1.heap[i]?:=λi hne=>Below.heap_setCell w1 _ _ _ hne;have hgs:=hg.size;refine⟨by simp[World.cell?,hf],by simp[World.frozen?,hf],hblk,⟨hg.os.trans h.bel.os,hg.tape.trans h.bel.tape,hg.output.trans h.bel.output,by have:=h.bel.size;simp at hgs⊢;omega,λi hi=>?_⟩,by simp at hgs⊢;omega,?_,?_,?_⟩
 ·rw[hse i (by omega),hlow i (by omega)];exact h.bel.block i hi
 ·rw[hse _ (by omega)];exact(hlow _ (by omega)).trans h.res
 ·simp[World.setCell,Array.getElem?_modify,hf]
 ·rw[List.length_append,List.flatMap_append];refine rowBlk (W:=w1) (by simpa using ho) (λg' e2=>hse g' ?_);have:=(ho.lt g' e2).1;omega
def PartC(f:Nat)(B:Nat)(T:ByteArray)(p:Nat)(t:Tk):Prop:=∀(l:Int) (w:World),Gd w->Sb B T p l false w->
 Calls Tryz.prog f #[.pointer (some ⟨B,0,none⟩)] w λe w'=>e=.returned (tokV t.kind 0 0 0 t.num t.text)/\Mv B T (t.to:Int) l false w w'
theorem alone_word(L:List UInt8)(hT:T.data.toList=L)(p:Nat)(x:UInt8)(hx:L[p]? =some x)(hlv:isL x=true)(hB:12<=B)(t:Tk)(hc:PartC 160 B T p t):PartC 152 B T p t:=by
 intro l w hg h;have hix:=ix T L hT p x hx;have hBlt:B<w.heap.size:=h.lt;have hnB:w.heap.size≠B:=by omega
 have hz:=Mz.start h;have hgz:Gd (w.alloc (.cells #[.int .i64 0,.int .i64 0,.int .i64 0,.int .i64 0,.int .i64 0,.string ⟨#[]⟩] 125)):=hg.kb hB hz.1.1;have c0:=hz.1.2.c0;have c1:=hz.1.2.c1;obtain⟨W,hWe,HS⟩:∃W,W=(w.alloc (.cells #[.int .i64 0,.int .i64 0,.int .i64 0,.int .i64 0,.int .i64 0,.string ⟨#[]⟩] 125))/\Hid (Mz B w.heap.size T p l false w W/\Gd W):=⟨_,rfl,(⟨hz,hgz⟩:_/\_)⟩
 rw[<-hWe]at c0 c1;have hlet:=impl_isL x;rw[hlv]at hlet;have HC:Hid (PartC 160 B T p t):=hc;clear hT hx hlv hc hg h hz hgz;generalize (x.toNat:Int)=xi at*;go_enter Tryz.func152,Tryz.ntmps152;go_wp2_with fail;rw[<-hWe];clear hWe
 go_quiet (fail)
 obtain⟨W2,hWe2,HS2⟩:∃W2,W2=W.drewN nq/\Hid (Mz B w.heap.size T p l false w W2/\Gd W2):=⟨_,rfl,(⟨HS.1.drewN nq,⟨HS.2.words,HS.2.marks,HS.2.infx,HS.2.err7,HS.2.err6,HS.2.size⟩⟩:_/\_)⟩
 rw[<-hWe2];clear hWe2 HS c0 c1 hix;have hcall:=(uh HC) l W2 HS2.2 HS2.1.1.2;clear HC;unfold tokV at hcall;go_wp2_with fail;refine(hlet _).mono ?_;rintro en w2 ⟨rfl,rfl⟩;clear hlet;go_wp2_with fail;refine hcall.mono ?_;rintro en W3 ⟨rfl,m3⟩;have hq:=HS2.1.trans m3 hnB;clear hcall HS2 m3;have z3:=hq.2;obtain⟨g0,g1,g2,g3,g4,g5,y0,y1,y2,y3,y4,y5,e0,e1,e2,e3,e4,e5⟩:=z3.all;have HM4:Hid (Mv B T (t.to:Int) l false w W3):=hq.1;clear hq z3;go_wp2_with fail;refine bodyPost_ret (by simp[results,Tryz.results152,go_sem,e0,e1,e2,e3,e4,e5];rfl) rfl ?_;exact⟨rfl,st6_mv HM4 (Nat.le_refl _) hnB _ _ _ _ _ _⟩
theorem alone_num(L:List UInt8)(hT:T.data.toList=L)(p:Nat)(x:UInt8)(hx:L[p]? =some x)(hlv:isL x=false)(hdv:isD x=true)(hB:12<=B)(t:Tk)(hc:PartC 162 B T p t):PartC 152 B T p t:=by
 intro l w hg h;have hix:=ix T L hT p x hx;have hBlt:B<w.heap.size:=h.lt;have hnB:w.heap.size≠B:=by omega
 have hz:=Mz.start h;have hgz:Gd (w.alloc (.cells #[.int .i64 0,.int .i64 0,.int .i64 0,.int .i64 0,.int .i64 0,.string ⟨#[]⟩] 125)):=hg.kb hB hz.1.1;have c0:=hz.1.2.c0;have c1:=hz.1.2.c1;obtain⟨W,hWe,HS⟩:∃W,W=(w.alloc (.cells #[.int .i64 0,.int .i64 0,.int .i64 0,.int .i64 0,.int .i64 0,.string ⟨#[]⟩] 125))/\Hid (Mz B w.heap.size T p l false w W/\Gd W):=⟨_,rfl,(⟨hz,hgz⟩:_/\_)⟩
 rw[<-hWe]at c0 c1;have hlet:=impl_isL x;rw[hlv]at hlet;have hdig:=impl_isD x;rw[hdv]at hdig;have HC:Hid (PartC 162 B T p t):=hc;clear hT hx hlv hdv hc hg h hz hgz;generalize (x.toNat:Int)=xi at*;go_enter Tryz.func152,Tryz.ntmps152;go_wp2_with fail;rw[<-hWe];clear hWe
 go_quiet (fail)
 obtain⟨W2,hWe2,HS2⟩:∃W2,W2=W.drewN nq/\Hid (Mz B w.heap.size T p l false w W2/\Gd W2):=⟨_,rfl,(⟨HS.1.drewN nq,⟨HS.2.words,HS.2.marks,HS.2.infx,HS.2.err7,HS.2.err6,HS.2.size⟩⟩:_/\_)⟩
 rw[<-hWe2];clear hWe2 HS c0 c1 hix;have hcall:=(uh HC) l W2 HS2.2 HS2.1.1.2;clear HC;unfold tokV at hcall;go_wp2_with fail;refine(hlet _).mono ?_;rintro en w2 ⟨rfl,rfl⟩;clear hlet;go_wp2_with fail;refine(hdig _).mono ?_;rintro en w2 ⟨rfl,rfl⟩;clear hdig;go_wp2_with fail;refine hcall.mono ?_;rintro en W3 ⟨rfl,m3⟩;have hq:=HS2.1.trans m3 hnB;clear hcall HS2 m3;have z3:=hq.2;obtain⟨g0,g1,g2,g3,g4,g5,y0,y1,y2,y3,y4,y5,e0,e1,e2,e3,e4,e5⟩:=z3.all;have HM4:Hid (Mv B T (t.to:Int) l false w W3):=hq.1;clear hq z3;go_wp2_with fail;refine bodyPost_ret (by simp[results,Tryz.results152,go_sem,e0,e1,e2,e3,e4,e5];rfl) rfl ?_;exact⟨rfl,st6_mv HM4 (Nat.le_refl _) hnB _ _ _ _ _ _⟩
theorem alone_str(L:List UInt8)(hT:T.data.toList=L)(p:Nat)(x:UInt8)(hx:L[p]? =some x)(hlv:isL x=false)(hdv:isD x=false)(hqv:(x.toNat==34)=true)(hB:12<=B)(t:Tk)(hc:PartC 163 B T p t):PartC 152 B T p t:=by
 intro l w hg h;have hix:=ix T L hT p x hx;have hBlt:B<w.heap.size:=h.lt;have hnB:w.heap.size≠B:=by omega
 have hz:=Mz.start h;have hgz:Gd (w.alloc (.cells #[.int .i64 0,.int .i64 0,.int .i64 0,.int .i64 0,.int .i64 0,.string ⟨#[]⟩] 125)):=hg.kb hB hz.1.1;have c0:=hz.1.2.c0;have c1:=hz.1.2.c1;obtain⟨W,hWe,HS⟩:∃W,W=(w.alloc (.cells #[.int .i64 0,.int .i64 0,.int .i64 0,.int .i64 0,.int .i64 0,.string ⟨#[]⟩] 125))/\Hid (Mz B w.heap.size T p l false w W/\Gd W):=⟨_,rfl,(⟨hz,hgz⟩:_/\_)⟩
 rw[<-hWe]at c0 c1;have hlet:=impl_isL x;rw[hlv]at hlet;have hdig:=impl_isD x;rw[hdv]at hdig;have hq34:((x.toNat:Int)==34)=true:=by simp at hqv⊢;omega
 have HC:Hid (PartC 163 B T p t):=hc;clear hT hx hlv hdv hqv hc hg h hz hgz;generalize (x.toNat:Int)=xi at*;go_enter Tryz.func152,Tryz.ntmps152;go_wp2_with fail;rw[<-hWe];clear hWe
 go_quiet (fail)
 obtain⟨W2,hWe2,HS2⟩:∃W2,W2=W.drewN nq/\Hid (Mz B w.heap.size T p l false w W2/\Gd W2):=⟨_,rfl,(⟨HS.1.drewN nq,⟨HS.2.words,HS.2.marks,HS.2.infx,HS.2.err7,HS.2.err6,HS.2.size⟩⟩:_/\_)⟩
 rw[<-hWe2];clear hWe2 HS c0 c1 hix;have hcall:=(uh HC) l W2 HS2.2 HS2.1.1.2;clear HC;unfold tokV at hcall;go_wp2_with fail;refine(hlet _).mono ?_;rintro en w2 ⟨rfl,rfl⟩;clear hlet;go_wp2_with fail;refine(hdig _).mono ?_;rintro en w2 ⟨rfl,rfl⟩;clear hdig;go_wp2_with fail;refine hcall.mono ?_;rintro en W3 ⟨rfl,m3⟩;have hq:=HS2.1.trans m3 hnB;clear hcall HS2 m3;have z3:=hq.2;obtain⟨g0,g1,g2,g3,g4,g5,y0,y1,y2,y3,y4,y5,e0,e1,e2,e3,e4,e5⟩:=z3.all;have HM4:Hid (Mv B T (t.to:Int) l false w W3):=hq.1;clear hq z3;go_wp2_with fail;refine bodyPost_ret (by simp[results,Tryz.results152,go_sem,e0,e1,e2,e3,e4,e5];rfl) rfl ?_;exact⟨rfl,st6_mv HM4 (Nat.le_refl _) hnB _ _ _ _ _ _⟩
theorem alone_sign(L:List UInt8)(hT:T.data.toList=L)(p:Nat)(x:UInt8)(hx:L[p]? =some x)(hlv:isL x=false)(hdv:isD x=false)(hqv:(x.toNat==34)=false)(hB:12<=B)(t:Tk)(hc:PartC 164 B T p t):PartC 152 B T p t:=by
 intro l w hg h;have hix:=ix T L hT p x hx;have hBlt:B<w.heap.size:=h.lt;have hnB:w.heap.size≠B:=by omega
 have hz:=Mz.start h;have hgz:Gd (w.alloc (.cells #[.int .i64 0,.int .i64 0,.int .i64 0,.int .i64 0,.int .i64 0,.string ⟨#[]⟩] 125)):=hg.kb hB hz.1.1;have c0:=hz.1.2.c0;have c1:=hz.1.2.c1;obtain⟨W,hWe,HS⟩:∃W,W=(w.alloc (.cells #[.int .i64 0,.int .i64 0,.int .i64 0,.int .i64 0,.int .i64 0,.string ⟨#[]⟩] 125))/\Hid (Mz B w.heap.size T p l false w W/\Gd W):=⟨_,rfl,(⟨hz,hgz⟩:_/\_)⟩
 rw[<-hWe]at c0 c1;have hlet:=impl_isL x;rw[hlv]at hlet;have hdig:=impl_isD x;rw[hdv]at hdig;have hq34:((x.toNat:Int)==34)=false:=by simp at hqv⊢;omega
 have HC:Hid (PartC 164 B T p t):=hc;clear hT hx hlv hdv hqv hc hg h hz hgz;generalize (x.toNat:Int)=xi at*;go_enter Tryz.func152,Tryz.ntmps152;go_wp2_with fail;rw[<-hWe];clear hWe
 go_quiet (fail)
 obtain⟨W2,hWe2,HS2⟩:∃W2,W2=W.drewN nq/\Hid (Mz B w.heap.size T p l false w W2/\Gd W2):=⟨_,rfl,(⟨HS.1.drewN nq,⟨HS.2.words,HS.2.marks,HS.2.infx,HS.2.err7,HS.2.err6,HS.2.size⟩⟩:_/\_)⟩
 rw[<-hWe2];clear hWe2 HS c0 c1 hix;have hcall:=(uh HC) l W2 HS2.2 HS2.1.1.2;clear HC;unfold tokV at hcall;go_wp2_with fail;refine(hlet _).mono ?_;rintro en w2 ⟨rfl,rfl⟩;clear hlet;go_wp2_with fail;refine(hdig _).mono ?_;rintro en w2 ⟨rfl,rfl⟩;clear hdig;go_wp2_with fail;refine hcall.mono ?_;rintro en W3 ⟨rfl,m3⟩;have hq:=HS2.1.trans m3 hnB;clear hcall HS2 m3;have z3:=hq.2;obtain⟨g0,g1,g2,g3,g4,g5,y0,y1,y2,y3,y4,y5,e0,e1,e2,e3,e4,e5⟩:=z3.all;have HM4:Hid (Mv B T (t.to:Int) l false w W3):=hq.1;clear hq z3;go_wp2_with fail;refine bodyPost_ret (by simp[results,Tryz.results152,go_sem,e0,e1,e2,e3,e4,e5];rfl) rfl ?_;exact⟨rfl,st6_mv HM4 (Nat.le_refl _) hnB _ _ _ _ _ _⟩
