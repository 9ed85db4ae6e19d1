import Derived.Test.YtkhdehngobkkfaaGreatDoorASpi
import Derived.Test.YtkhdehngobkkfaaGreatDoorASbd
set_option maxRecDepth 100000
set_option maxHeartbeats 4000000
namespace Go.Proofs.YtkhdehngobkkfaaGreatDoor.Fo
open Go.ChangeShapes Go.WideShapes Go.ChangeAt Go.RowKit Go.Shelf
set_option linter.unusedVariables false
variable {w W X:World}{v:Value}{n:Nat}{F:Nat->Gv}{D:Nat->Int}
theorem ord_ex(q:Nat):∀k,k<=q->∃xs:List {j:Nat // j<q},Ord xs/\xs.length=k:=by
 intro k
 induction k with
 |zero=>intro _;exact⟨[],Ord.nil,rfl⟩
 |succ k ih=>
  intro h;obtain⟨xs,h1,h2⟩:=ih (by omega);exact⟨xs++[⟨q-1-k,by omega⟩],h1.push (by rw[h2]),by simp[h2]⟩
theorem map_val_inj {q:Nat}:∀{xs ys:List {j:Nat // j<q}},xs.map (λx=>x.val)=ys.map (λx=>x.val)->xs=ys
 | [],[],_=>rfl
 | [],_::_,h=>by cases h
 |_::_,[],h=>by cases h
 |x::xs,y::ys,h=>by
  simp only[List.map_cons,List.cons.injEq]at h;rw[Subtype.ext h.1,map_val_inj h.2]
theorem ord_uniq{q:Nat}{xs ys:List {j:Nat // j<q}}(hx:Ord xs)(hy:Ord ys)(h:xs.length=ys.length):xs=ys:=
 map_val_inj ((show _=_ from hx).trans ((congrArg (bwl q) h).trans (show _=_ from hy).symm))
theorem RowF.slots(h:RowF w v n F):∃(PN PK:Nat->Option Addr) (CN CK:Nat->Nat),RowX w v n (λi=>(F i).a) (λi=>.slice (PN i) (F i).p (CN i)) (λi=>.slice (PK i) (F i).q (CK i))/\∀i,i<n->RowV w (.slice (PK i) (F i).q (CK i)) (F i).q (λj=>.int .i64 ((F i).K j)):=by
 obtain⟨pf,cf,rfl,hf2⟩:=h;rcases Nat.eq_zero_or_pos n with h0|h0
 ·exact⟨λ_=>none,λ_=>none,λ_=>0,λ_=>0,⟨pf,cf,rfl,λh=>by omega⟩,λi hi=>by omega⟩
 ·obtain⟨c,rfl,hcc,hrc⟩:=hf2 h0
  have key:∀i,∃t:(Option Addr×Option Addr)×(Nat×Nat),i<n->Cel9 w (c.add (i*9)) (F i).a (.slice t.1.1 (F i).p t.2.1) (.slice t.1.2 (F i).q t.2.2)/\RowV w (.slice t.1.2 (F i).q t.2.2) (F i).q (λj=>.int .i64 ((F i).K j)):=λi=>by
   rcases Nat.lt_or_ge i n with hi|hi
   ·obtain⟨vn,vk,hc,hrn,hrk⟩:=hrc i hi;obtain⟨pn,cn,rfl,_⟩:=hrn;obtain⟨pk,ck,rfl,hk2⟩:=hrk;exact⟨((pn,pk),(cn,ck)),λ_=>⟨hc,⟨pk,ck,rfl,hk2⟩⟩⟩
   ·exact⟨((none,none),(0,0)),λh=>by omega⟩
  exact⟨λi=>(Classical.choose (key i)).1.1,λi=>(Classical.choose (key i)).1.2,λi=>(Classical.choose (key i)).2.1,λi=>(Classical.choose (key i)).2.2,
   ⟨some c,cf,rfl,λ_=>⟨c,rfl,hcc,λi hi=>(Classical.choose_spec (key i) hi).1⟩⟩,λi hi=>(Classical.choose_spec (key i) hi).2⟩
structure Dp (w:World) (F:Nat->Gv) (n:Nat) (pre:List {j:Nat // j<n}) (W:World):Prop where
 os:W.os=w.os
 output:W.output=w.output
 size:w.heap.size+3<=W.heap.size
 old:∀k,k<w.heap.size->W.heap[k]? =w.heap[k]?
 box:W.heap[w.heap.size+1]? =some (.cells #[.slice (some ⟨w.heap.size,0,none⟩) n n] 42 (0,0))
 fz:∀k,W.frozen? ⟨w.heap.size,k,none⟩=false
 row:∃D:Nat->Int,(∀k,k<n->W.cell? ⟨w.heap.size,k,none⟩=some (.int .i64 (D k)))/\(∀k,0<=D k/\D k<=(pre.length:Int))/\(Ord pre->∀k,D k=dpr F n pre.length k)
theorem Dp.blk{pre:List {j:Nat // j<n}}{W':World}(h:Dp w F n pre W)(h1:W'.os=W.os)(h2:W'.output=W.output)(h3:W.heap.size<=W'.heap.size)(h4:∀k,k<w.heap.size+2->W'.heap[k]? =W.heap[k]?):Dp w F n pre W':=by
 obtain⟨D,d1,d2⟩:=h.row
 exact⟨h1.trans h.os,h2.trans h.output,Nat.le_trans h.size h3,λk hk=>(h4 k (by omega)).trans (h.old k hk),(h4 _ (by omega)).trans h.box,λk=>(World.frozen?_of_block (h4 _ (by show w.heap.size<_;omega))).trans (h.fz k),
  D,λk hk=>(World.cell?_of_block (h4 _ (by show w.heap.size<_;omega))).trans (d1 k hk),d2⟩
theorem own_dp:OwnFrom (w.heap.size+3) (Dp w F n):=λpre X X' row h hg hr=>
 h.blk hg.os hg.output hg.size (λk hk=>hg.block k (by have:=h.size;omega) (λe=>by have:=(hr k e.symm).1;omega))
structure Dq (w:World) (F:Nat->Gv) (n:Nat) (D:Nat->Int) (X W:World):Prop where
 os:W.os=X.os
 output:W.output=X.output
 size:X.heap.size<=W.heap.size
 old:∀k,k<X.heap.size->k≠w.heap.size->W.heap[k]? =X.heap[k]?
 oth:∀o,X.heap[w.heap.size]? =some o->o.isCells=true
 row:∀k,k<n->W.cell? ⟨w.heap.size,k,none⟩=some (.int .i64 (D k))
 fz:∀k,W.frozen? ⟨w.heap.size,k,none⟩=false
theorem Dq.set(h:Dq w F n D X W)(m:Nat)(hm:m<n)(x:Int)(D':Nat->Int)(hD:∀k,k<n->D' k=if k=m then x else D k)(d:Nat):Dq w F n D' X ((W.setCell ⟨w.heap.size,m,none⟩ (.int .i64 x)).drewN d):=by
 refine⟨h.os,h.output,by simpa using h.size,λk hk hne=>(Below.heap_setCell W _ _ _ hne).trans (h.old k hk hne),h.oth,λk hk=>?_,λk=>(set_fz W w.heap.size m k (.int .i64 x)).trans (h.fz k)⟩;rw[hD k hk];by_cases e:k=m
 ·subst e;rw[if_pos rfl];exact set_eq W _ _ _ (.int .i64 (D k)) (h.row k hk)
 ·rw[if_neg e];exact(set_ne W _ _ _ _ e).trans (h.row k hk)
theorem Dq.keeps(h:Dq w F n D X W)(b:Nat):KeepsFrom b X W:=
 ⟨h.size,λk o _ hk ho=>by
  by_cases e:k=w.heap.size
  ·subst e;have:=h.oth o hk;rw[ho]at this;cases this
  ·exact(h.old k (Array.getElem?_eq_some_iff.1 hk).1 e).trans hk⟩
theorem Dp.round{pre:List {j:Nat // j<n}}{x:{j:Nat // j<n}}(h:Dp w F n pre X)(hpl:pre.length<n)(d2:∀k,0<=D k/\D k<=(pre.length:Int))(d3:Ord pre->∀k,D k=dpr F n pre.length k)
  (hq:Dq w F n (upd D (F x.val).K (D x.val+1) (F x.val).q) X W):Dp w F n (pre++[x]) W:=by
 have hs:=h.size;refine⟨hq.os.trans h.os,hq.output.trans h.output,Nat.le_trans hs hq.size,λk hk=>(hq.old k (by omega) (by omega)).trans (h.old k hk),(hq.old _ (by omega) (by omega)).trans h.box,hq.fz,_,hq.row,λk=>?_,λho k=>?_⟩
 ·have hx:=d2 x.val;have:=upd_in (D:=D) (K:=(F x.val).K) (x:=D x.val+1) (m:=(pre.length:Int)+1) (λk=>by have:=d2 k;omega) (by omega) (F x.val).q k;rw[List.length_append,List.length_cons,List.length_nil];omega
 ·obtain⟨o1,o2⟩:=ho.app;have e:D=dpr F n pre.length:=funext (d3 o1);rw[List.length_append,List.length_cons,List.length_nil,e,o2];rfl
theorem wpIn_rangeFunc_s0{α:Type}{P:Program}{g:Operand}{ps:Array Tmp}{assign body:Code}{Q:Exit->Act->World->Prop}{a:Act}
    (h1:1<=n) {gf:Nat} {lb:Array Value} (hg:a.eval g=.func (.func gf) #[] lb) (eg:∀args w,(callFunc gf args).run P w=.ok (.enter gf args) w)
    {encs:α->Array Value} (hps:∀x,(encs x).size=ps.size) (B:Nat) (hB:B<w.heap.size) (xs:List α) (E:World->Prop)
    (I:List α->World->Prop) (hI:OwnFrom w.heap.size I) (hIK:∀s W W',I s W->Kb B W W'->I s W') (h0:I [] w)
    (hE:∀W l o',w.heap.size<=l->E W->E (W.putObj l o'))
    (hiter:∀(lp:Nat) (J:List α->World->Prop) (W:World),Below w.heap.size w W->(∀pre W W',J pre W->Kb B W W'->J pre W')->(∀pre W,J pre W->I pre W)->
      (∀pre x W,J pre W->pre.length<xs.length->YieldAt Fence.wide (n-1-1) P lp (encs x) W λe W'=>e=.returned (.bool true)/\J (pre++[x]) W'/\W'.heap[B]? =W.heap[B]?)->J [] W->
      CallsIn Fence.wide (n-1) P gf (#[.func (.yield lp) #[] #[]]++lb) W λen W'=>(∃v,en=.returned v)/\J xs W'/\E W')
    (a₁:α->Act)
    (hassign:∀(l:Nat) (x:α) (W:World) (K:Act->World->Prop),K (a₁ x) W->
      assign.wpIn (Fence.wide.inRound l) (n-1-1) P (Exit.then K (λ_ _ _=>False)) {tmps:=(ps.zip (encs x)).foldl (λt (p,v)=>t.setIfInBounds p v) a.tmps,defers:=[]} W)
    (hbody:∀(l:Nat) (pre:List α) (x:α) (W:World),pre.length<xs.length->I pre W->
      body.wpIn (Fence.wide.inRound l) (n-1-1) P (bodyEnd w.heap.size B I (pre++[x]) W) (a₁ x) W)
    (hdone:∀(D:Nat) (W:World),w.heap.size<=D->I xs W->E W->W.heap[D]? =some (.deferred (some []))->Q .normal {a with defers:={target:=.collected D,args:=#[]}::a.defers} W):
    (Code.rangeFunc g ps assign body).wpIn Fence.wide n P Q a w:=by
  refine wpIn_rangeFunc ?_;intro fn hfn;rw[show Fence.wide.round=none from rfl];obtain⟨rec,hrec⟩:∃rec:LoopState->Option Code->Loop,rec=λst pe=>{state:=st,pending:=pe,fn,tmps:=a.tmps,params:=ps,assign,body,defers:=w.heap.size}:=⟨_,rfl⟩
  obtain⟨W1,hW1⟩:∃W1,(w.alloc (.deferred (some []))).alloc (.loop (rec .ready none))=W1:=⟨_,rfl⟩
  have hL1:W1.heap[w.heap.size+1]? =some (.loop (rec .ready none)):=by
    rw[<-hW1];have:=World.alloc_heap_new (w.alloc (.deferred (some []))) (.loop (rec .ready none));rwa [World.size_alloc]at this
  have hK1:W1.heap[w.heap.size]? =some (.deferred (some [])):=by
    rw[<-hW1];exact(Below.heap_alloc _ _ _ (by simp)).trans (World.alloc_heap_new w _)
  have hI1:I [] W1:=by rw[<-hW1];exact hI.alloc _ (hI.alloc _ h0)
  have hb1:Below w.heap.size w W1:=by
    rw[<-hW1];exact((Below.refl _ w).alloc (Nat.le_refl _) _).alloc (by simp) _
  refine⟨w.heap.size+1,[{target:=.collected w.heap.size,args:=#[]}],W1,{target:=.fn (.func gf) lb,args:=#[.func (.yield (w.heap.size+1)) #[] #[]]},W1,gf,
    #[.func (.yield (w.heap.size+1)) #[] #[]]++lb,W1,?_,?_,?_,?_,λ_=>h1,?_⟩
  · rw[<-hW1,hrec];exact run_enterLoop_outer _ _ _ _ _
  · simp only[resolve,hg];simp[go_sem]
  · intro f' hf';trivial
  · simp[invoke,go_sem,eg]
  · refine (hiter (w.heap.size + 1)
      (λpre W=>I pre W/\W.heap[w.heap.size+1]? =some (.loop (rec .ready none))/\W.heap[w.heap.size]? =some (.deferred (some [])))
      W1 hb1 ?_ (λpre W h=>h.1) ?_ ⟨hI1,hL1,hK1⟩).mono ?_
    · rintro pre W W' ⟨hi,hl,hk⟩ hkb;have l1:w.heap.size+1<W.heap.size:=(Array.getElem?_eq_some_iff.1 hl).1;exact⟨hIK _ _ _ hi hkb,(hkb.block _ l1 (by omega)).trans hl,(hkb.block _ (by omega) (by omega)).trans hk⟩
    · rintro pre x W ⟨hi,hl,hk⟩ hlen;have hlt:w.heap.size+1<W.heap.size:=(Array.getElem?_eq_some_iff.1 hl).1;have hy:=run_yield (P:=P) (args:=encs x) hl (by rw[hrec];exact hps x);rw[hrec]at hy;refine⟨fn,_,assign,body,hy,roundIn_of_wpIn hfn (hassign _ x W _ ⟨_,run_beginRound hl (by rw[hrec]),?_⟩)⟩;obtain⟨W2,hW2⟩:∃W2,W.putObj (w.heap.size+1) (.loop {rec .ready none with state:=.busy})=W2:=⟨_,rfl⟩
      rw[hW2];have hl2:W2.heap[w.heap.size+1]? =some (.loop {rec .ready none with state:=.busy}):=by rw[<-hW2];exact World.putObj_heap_same (by omega)
      have hk2:W2.heap[w.heap.size]? =some (.deferred (some [])):=by rw[<-hW2];exact(World.putObj_heap_other (by omega)).trans hk
      have hi2:I pre W2:=by rw[<-hW2];exact hI.putObj _ hi (by omega) hl rfl
      have hB2:W2.heap[B]? =W.heap[B]?:=by rw[<-hW2];exact World.putObj_heap_other (by omega)
      refine wpIn_mono (hbody _ pre x W2 hlen hi2) ?_;rintro e a3 W3 hp;cases e with
      |normal=>
        obtain⟨hk3,hi3,hB3⟩:=hp;have hl3:=hk3.same _ _ (by omega) hl2 rfl;have hr:=run_endRound (P:=P) none hl3;rw[hrec]at hr hl3⊢;refine⟨_,_,hr,rfl,⟨hI.putObj _ hi3 (by omega) hl3 rfl,World.putObj_heap_same (Array.getElem?_eq_some_iff.1 hl3).1,(World.putObj_heap_other (by omega)).trans (hk3.same _ _ (by omega) hk2 rfl)⟩,?_⟩;exact(World.putObj_heap_other (by omega)).trans (hB3.trans hB2)
      |ret=>exact hp.elim
      |exit id=>exact hp.elim
      |goto t=>exact hp.elim
      |panic ch=>exact hp.elim
      |outgrown=>exact hp.elim
    · rintro e W2 ⟨⟨v,rfl⟩,⟨hi,hl,hk⟩,hE2⟩;exact⟨none,_,by have:=run_endLoop (P:=P) hl (by rw[hrec];simp);rw[hrec]at this;exact this,hdone _ _ (Nat.le_refl _) (hI.putObj _ hi (by omega) hl rfl) (hE _ _ _ (by omega) hE2) ((World.putObj_heap_other (by omega)).trans hk)⟩
attribute [local go_sem] Oper.semAt_some
theorem im_deeper(d:Int)(w:World):Calls Tryz.prog 86 #[.int .i64 d] w λe w'=>e=.returned (.bool (decide (100<d)))/\w'=w:=by
 by_cases h:100<d
 ·rw[decide_eq_true h];go_enter Tryz.func86,Tryz.ntmps86;go_wp2_with fail;go_ret;exact⟨rfl,rfl⟩
 ·rw[decide_eq_false h];go_enter Tryz.func86,Tryz.ntmps86;go_wp2_with fail;go_ret;exact⟨rfl,rfl⟩
theorem en_deeper:∀args w,(callFunc 86 args).run Tryz.prog w=.ok (.enter 86 args) w:=enters_of Tryz.func86 (by kernel_rfl) rfl
inductive Tdp (D:Nat->Int) (n:Nat):Int->Prop
 |at (i:Nat):i<n->(∀j,j<i->D j<=100)->100<D i->Tdp D n (i:Int)
 |none:(∀j,j<n->D j<=100)->Tdp D n (-1)
theorem im_ixdeep{g:Nat}(w:World)(hr:∀k,k<n->w.cell? ⟨g,k,none⟩=some (.int .i64 (D k)))(hp:n<=3000):
  Calls Tryz.prog 85 #[.slice (some ⟨g,0,none⟩) n n,.func (.func 86) #[] #[]] w λe w'=>(∃r:Int,e=.returned (.int .i64 r)/\Tdp D n r)/\w'=w:=by
 have hpI:(n:Int)<=3000:=by omega
 have HR:Hid (∀k,k<n->w.cell? ⟨g,k,none⟩=some (.int .i64 (D k))):=hr;clear hr hp;have eg:=en_deeper;go_enter Tryz.func85,Tryz.ntmps85;go_wp2_with fail
 go_loopw [8] (λs8 wr=>∃i:Nat,s8=.int .i64 i/\i<=n/\wr=w/\Hid (∀j,j<i->D j<=100)) (λs8 _=>n-(intOf s8).toNat)
 case atStart=>exact⟨0,rfl,Nat.zero_le _,rfl,(λj hj=>by omega:∀j,j<0->D j<=100)⟩
 case round=>
  obtain⟨i,rfl,hin,rfl,HI⟩:=hrel;have ha:=(uh HI)
  rcases Nat.lt_or_ge i n with hi|hi
  ·have hiI:(i:Int)<(n:Int):=by omega
   have qa:=(uh HR) i hi;have hcall:=im_deeper (D i) wr;by_cases hn:100<D i
   ·rw[decide_eq_true hn]at hcall;have HX:Hid (Tdp D n (i:Int)):=.at i hi ha hn;clear HI ha HR hn;generalize D i=x at*;go_wp2_with (go_at_fn 86;refine hcall.mono ?_;rintro e w' ⟨rfl,rfl⟩);go_ret;exact⟨⟨(i:Int),rfl,HX⟩,rfl⟩
   ·rw[decide_eq_false hn]at hcall
    have HX:Hid (∀j,j<i+1->D j<=100):=(λj hj=>by
     by_cases e:j=i
     ·rw[e];omega
     ·exact ha j (by omega):∀j,j<i+1->D j<=100)
    clear HI ha HR hn;generalize D i=x at*;go_wp2_with (go_at_fn 86;refine hcall.mono ?_;rintro e w' ⟨rfl,rfl⟩);go_roundw
    case rel=>exact⟨i+1,by go_num,by omega,by first|trivial|rfl,HX⟩
    case measure=>simp[intOf];omega
  ·obtain rfl:i=n:=by omega
   clear HR ha;go_wp2_with fail;go_ret;exact⟨⟨-1,rfl,.none HI⟩,rfl⟩
theorem im_deep{PK:Nat->Option Addr}{CK:Nat->Nat}(w:World)(hrx:RowV w v n (λi=>.slice (PK i) (F i).q (CK i)))(hrk:∀i,i<n->RowV w (.slice (PK i) (F i).q (CK i)) (F i).q (λj=>.int .i64 ((F i).K j)))(hn:n<=3000)(hK:Kn F n)(hq:∀i,i<n->(F i).q<=1048576):
  Calls Tryz.prog 52 #[v] w λe w'=>(∃r:Int,e=.returned (.int .i64 r)/\Tdp (dpr F n n) n r)/\w'.os=w.os/\w'.output=w.output/\w.heap.size<=w'.heap.size/\∀k,k<w.heap.size->w'.heap[k]? =w.heap[k]?:=by
 have HRX:=hrx;obtain⟨pf,cf,rfl,_⟩:=hrx;obtain⟨xs,hxo,hxl⟩:=ord_ex n n (Nat.le_refl _);have hnI:(n:Int)<=3000:=by omega
 have hmk:=run_make (P:=Tryz.prog) w 42 3 Tryz.t3 (.int .i64 0) Tryz.underlying42 (by kernel_rfl) (by kernel_rfl) .i64 .i64 (n:Int) (n:Int) (by omega) (Int.le_refl _) (by show(8:Int)*(n:Int)<=_;omega) (by omega);rw[Int.toNat_natCast]at hmk;have HMB:=λW=>bwk_make pf n cf W;have HST:Hid (RowV w (.slice pf n cf) n (λi=>.slice (PK i) (F i).q (CK i))/\(∀i,i<n->RowV w (.slice (PK i) (F i).q (CK i)) (F i).q (λj=>.int .i64 ((F i).K j)))/\Kn F n/\(∀i,i<n->(F i).q<=1048576)/\Ord xs/\xs.length=n):=(⟨HRX,hrk,hK,hq,hxo,hxl⟩:_/\_/\_/\_/\_/\_)
 clear HRX hrk hK hq hxo;refine(callsIn_wide (n:=3)).1 ?_;refine callsIn_of_wp_marks Tryz.func52 rfl trivial ?_ rfl;simp only[Tryz.ntmps52,List.size_toArray,List.length_cons,List.length_nil,Nat.reduceAdd,Nat.reduceSub,Array.replicate_succ,Array.replicate_zero,List.push_toArray,List.append_toArray,List.nil_append,List.cons_append]
 gi_wp2_with fail
 refine⟨trivial,(callsIn_wide.2 (HMB _)).mono ?_⟩;rintro en w4 ⟨rfl,hw4⟩
 gi_wp2_with fail
 obtain⟨W3,hW3⟩:∃W3,W3=(((w.alloc (.cells (madeCells #[.int .i64 0] (n*Tryz.t3.size)) 3)).alloc (.cells #[.slice (some ⟨w.heap.size,0,none⟩) n n] 42)).alloc (.cells #[.slice pf n cf] 84)):=⟨_,rfl⟩
 rw[<-hW3];have z3:W3.heap.size=w.heap.size+3:=by rw[hW3];simp
 have d3:Dp w F n [] W3:=by
  rw[hW3];refine⟨rfl,rfl,by simp,λk hk=>?_,?_,λk=>?_,λ_=>0,λk hk=>?_,λk=>by simp,λ_ k=>rfl⟩
  ·rw[Below.heap_alloc _ _ _ (by simp;omega),Below.heap_alloc _ _ _ (by simp;omega),Below.heap_alloc _ _ _ hk]
  ·rw[Below.heap_alloc _ _ _ (by simp)];have:=World.alloc_heap_new (w.alloc (.cells (madeCells #[.int .i64 0] (n*Tryz.t3.size)) 3)) (.cells #[.slice (some ⟨w.heap.size,0,none⟩) n n] 42)
   simpa using this
  ·rw[World.frozen?_alloc_past _ _ _ (by simp;omega),World.frozen?_alloc_past _ _ _ (by simp)];exact World.frozen?_alloc_at _ _ _ _ (by simp)
  ·rw[World.cell?_alloc_past _ _ _ (by simp;omega),World.cell?_alloc_past _ _ _ (by simp)];exact made_cell w (.int .i64 0) 3 n rfl k hk
 have s3:W3.cell? ⟨w.heap.size+1+1,0,none⟩=some (.slice pf n cf):=by
  rw[hW3,World.cell?_alloc_at _ _ _ _ (by simp)];rfl
 clear hW3 hw4 HMB hmk
 refine wpIn_rangeFunc_s0 (α:={j:Nat // j<n}) (n:=3) (by omega) (gf:=104) (lb:=#[.pointer (some ⟨w.heap.size+1+1,0,none⟩)]) rfl (enters_of Tryz.func104 (by kernel_rfl) rfl)
  (encs:=λx=>#[.int .i64 x.val,.slice (PK x.val) (F x.val).q (CK x.val)]) (λ_=>rfl) (w.heap.size+1+1) (by omega) xs (λ_=>True) (Dp w F n) (by rw[z3];exact own_dp)
  (λs X X' h hk=>h.blk hk.os hk.output hk.size (λk hl=>hk.block k (by have:=h.size;omega) (by omega))) d3 (λ_ _ _ _ _=>trivial) ?iter
  (λx=>{tmps:=#[.slice pf n cf,undef,.int .i64 0,.pointer (some ⟨w.heap.size+1,0,none⟩),.int .i64 x.val,.slice (PK x.val) (F x.val).q (CK x.val),undef,undef,.slice pf n cf,.int .i64 n,.slice (some ⟨w.heap.size,0,none⟩) n n,.slice pf n cf,.func (.func 104) #[] #[.pointer (some ⟨w.heap.size+1+1,0,none⟩)],.int .i64 x.val,.slice (PK x.val) (F x.val).q (CK x.val),undef,undef,undef,undef,undef,undef,undef,undef,undef,undef,undef,undef,undef,undef,undef,undef,undef],defers:=[]}) ?assign ?body ?done
 case iter=>
  obtain⟨hrx,hrk,hK,hq,hxo,_⟩:=(uh HST)
  intro lp J X hb hJ hJI hY h0;refine(bwk_in 2 (by omega) lp (w.heap.size+1+1) w (q:=n) (by omega) hrx J (λ_ _=>False) (λpre x W1 hj hl=>?_) X (λk hk=>(hb.block k (by omega)).trans (d3.old k hk)) ((hb.cell (p:=⟨w.heap.size+1+1,0,none⟩) (lt_of_cell s3)).trans s3) h0).mono ?_
  ·obtain⟨fn,tmps,assign,body,hy,hR⟩:=hY pre x W1 hj (by rw[hxl];exact hl);refine⟨fn,tmps,assign,body,hy,hR.mono λe W' ⟨he,hj',hB⟩=>.inl ⟨he,hj',λk hk=>?_⟩⟩;rcases hk with hk|rfl
   ·exact((hJI _ _ hj').old k hk).trans ((hJI _ _ hj).old k hk).symm
   ·exact hB
  ·rintro e W' ⟨he,⟨ys,⟨o,l⟩,hj⟩|⟨_,_,f⟩⟩
   ·rw[ord_uniq hxo o (hxl.trans l.symm)];exact⟨he,hj,trivial⟩
   ·exact f.elim
 case assign=>
  intro l x X K hKK
  gi_wp2
  exact hKK
 case body=>
  intro l pre x X hpl hi;obtain⟨hrx,hrk,hK,hq,hxo,_⟩:=(uh HST)
  obtain⟨D,d1,d2,dd⟩:=hi.row;obtain⟨i,hix⟩:∃i,i=x.val:=⟨_,rfl⟩
  have hin:i<n:=by rw[hix];exact x.property
  have hqi:=hq i hin;have hqI:((F i).q:Int)<=1048576:=by omega
  have HQ0:Hid (Dq w F n (upd D (F i).K (D i+1) 0) X X):=⟨rfl,rfl,Nat.le_refl _,λ_ _ _=>rfl,λo ho=>by
   have h0:=hi.fz;cases o with
   |cells _ _ _=>rfl
   |_=>exact absurd (d1 i hin) (by simp[World.cell?,ho]),d1,hi.fz⟩
  have HEND:Hid (∀W,Dq w F n (upd D (F i).K (D i+1) (F i).q) X W->bodyEnd W3.heap.size (w.heap.size+1+1) (Dp w F n) (pre++[x]) X .normal {tmps:=#[],defers:=[]} W):=(λW hw=>by
   rw[hix]at hw
   refine(⟨hw.keeps _,hi.round (x:=x) (by omega) d2 dd hw,hw.old (w.heap.size+1+1) (by have:=hi.size;omega) (by omega)⟩:_/\_/\_):∀W,_)
  have HIN:Hid (i<n/\Kn F n/\(∀k,0<=D k/\D k<=(pre.length:Int))/\(∀k,k<w.heap.size->X.heap[k]? =w.heap[k]?)/\X.heap[w.heap.size+1]? =some (.cells #[.slice (some ⟨w.heap.size,0,none⟩) n n] 42 (0,0))/\w.heap.size+3<=X.heap.size/\RowV w (.slice (PK i) (F i).q (CK i)) (F i).q (λj=>.int .i64 ((F i).K j))):=(⟨hin,hK,d2,hi.old,hi.box,hi.size,hrk i hin⟩:_/\_/\_/\_/\_/\_/\_)
  have hpn:pre.length<3000:=by omega
  rw[<-hix];have mixed:Tryz.prog.follows .mixedOrders=true:=by kernel_rfl
  clear hi hrx hrk hK hq hxo d1 d2 dd hqi hix HST d3 s3
  gi_wp2_with fail
  gi_loopw [17] (λs18 wr=>∃j:Nat,s18=.int .i64 j/\j<=(F i).q/\Hid (Dq w F n (upd D (F i).K (D i+1) j) X wr)) (λs18 _=>(F i).q-(intOf s18).toNat)
  case atStart=>exact⟨0,rfl,Nat.zero_le _,HQ0⟩
  case round=>
   obtain⟨j,rfl,hjq,HJ⟩:=hrel;have hJ:=(uh HJ)
   obtain⟨hin,hK,d2,hold,hbox,hsz,hrk⟩:=(uh HIN)
   clear HQ0;rcases Nat.lt_or_ge j (F i).q with hj|hj
   ·have hjI:(j:Int)<((F i).q:Int):=by omega
    obtain⟨pa,ca,hpe,hr2⟩:=hrk;obtain⟨b,hb,hcb,hra⟩:=hr2 (by omega);obtain⟨e1,_,e2⟩:PK i=pa/\(F i).q=(F i).q/\CK i=ca:=by simpa using hpe
    subst e2;rw[e1,hb]at*;have q0w:=hra j hj;have hl0:=lt_of_cell' q0w;obtain⟨k0,k1⟩:=hK i hin j hj;obtain⟨m,hm⟩:∃m:Nat,(F i).K j=(m:Int):=⟨((F i).K j).toNat,by omega⟩
    have q0:wr.cell? (b.add j)=some (.int .i64 m):=by
     rw[<-hm];exact(World.cell?_of_block ((hJ.old _ (by omega) (by omega)).trans (hold _ hl0))).trans q0w
    have hb1:=(hJ.old (w.heap.size+1) (by omega) (by omega)).trans hbox;have c3:wr.cell? ⟨w.heap.size+1,0,none⟩=some (.slice (some ⟨w.heap.size,0,none⟩) n n):=by simp[World.cell?,hb1]
    have q1:=hJ.row i hin;rw[upd_far j (λj' hj'=>(hK i hin j' (by omega)).2)]at q1;have q2:=hJ.row m (by omega);have q3:=hJ.fz m;have hmn:(m:Int)<(n:Int):=by omega
    have hiI:(i:Int)<(n:Int):=by omega
    have hd:=d2 i;have hd1:0<=D i:=hd.1;have hd2:D i<=3000:=by omega
    have HX:Hid (∀d,Dq w F n (upd D (F i).K (D i+1) (j+1)) X ((wr.setCell ⟨w.heap.size,m,none⟩ (.int .i64 (D i+1))).drewN d)):=(λd=>hJ.set m (by omega) (D i+1) _ (λy hy=>by
     show(if(y:Int)=(F i).K j then D i+1 else upd D (F i).K (D i+1) j y)=_;rw[hm];by_cases e:y=m
     ·rw[if_pos (by omega),if_pos e]
     ·rw[if_neg (by omega),if_neg e]) d:∀d,_)
    clear hJ HJ k0 k1 hm hK d2 hold hbox hra q0w hl0 hb1 hd HIN HEND hr2;generalize D i=z at*;generalize upd D (F i).K (z+1) j m=z2 at*;have hwz:IntKind.i64.wrap (z+1)=z+1:=by simp only[IntKind.wrap_i64];omega
    gi_wp2_with fail
    gi_region_with_o (fail)
    all_goals
     have HX1:Hid (Dq w F n (upd D (F i).K (z+1) (j+1)) X (wr.setCell ⟨w.heap.size,m,none⟩ (.int .i64 (z+1))).drew):=(uh HX) 1;clear HX q0 q1 q2 q3 c3
     gi_wp2_with fail
     go_roundw
     case rel=>exact⟨j+1,by go_num,by omega,HX1⟩
     case measure=>simp[intOf];omega
   ·have ej:j=(F i).q:=by omega
    have HX:=(uh HEND) wr (by rw[<-ej];exact hJ);have HX2:Hid (bodyEnd W3.heap.size (w.heap.size+1+1) (Dp w F n) (pre++[x]) X .normal {tmps:=#[],defers:=[]} wr):=HX;rw[ej];clear hJ HJ HEND HIN hK d2 hold hbox hsz hrk ej hj hjq HX
    gi_wp2_with fail
    exact HX2
 case done=>
  rintro D' X hD hi _ hx;obtain⟨_,_,_,_,hxo,_⟩:=(uh HST)
  obtain⟨D,d1,d2,dd⟩:=hi.row;have c3:X.cell? ⟨w.heap.size+1,0,none⟩=some (.slice (some ⟨w.heap.size,0,none⟩) n n):=by simp[World.cell?,hi.box]
  have HC:=im_ixdeep X d1 hn;have HX:Hid (D=dpr F n n/\X.os=w.os/\X.output=w.output/\w.heap.size+3<=X.heap.size/\(∀k,k<w.heap.size->X.heap[k]? =w.heap[k]?)/\X.heap[D']? =some (.deferred (some []))):=(⟨by funext k;have:=dd hxo k;rw[hxl]at this;exact this,hi.os,hi.output,hi.size,hi.old,hx⟩:_/\_/\_/\_/\_/\_)
  clear hi d1 d2 dd HST d3 s3 hx
  gi_wp2_with fail
  refine⟨trivial,(callsIn_wide.2 HC).mono ?_⟩;rintro en w5 ⟨⟨r,rfl,hr⟩,rfl⟩;obtain⟨x1,x2,x3,x4,x5,x6⟩:=(uh HX)
  rw[x1]at hr;clear HC c3 x1
  gi_wp2_with fail
  refine leaves_marks [D'] w5 (by simp) (λr' hr'=>by rw[List.mem_singleton.1 hr'];exact x6) (λw' h1 h2 h3 h4=>?_);refine⟨_,by simp[results,Tryz.results52,go_sem];rfl,?_⟩;exact⟨⟨r,rfl,hr⟩,h1.trans x2,h2.trans x3,by omega,λk hk=>(h4 k (λe=>by have:=List.mem_singleton.1 e;omega)).trans (x5 k hk)⟩
