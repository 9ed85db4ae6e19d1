import Derived.RangeFuncCalls
import Derived.OwnWalkIn
import Derived.TacticsInMore
import Derived.LoopNIn
import Derived.LoopIn
import Derived.Shelf.Abstract
import Derived.Test.YtkhdehngobkkfaaGreatDoorASkk
import Derived.RangeFuncBox
set_option maxRecDepth 100000
set_option maxHeartbeats 4000000
namespace Go.Proofs.YtkhdehngobkkfaaGreatDoor.Fo
open Go.ChangeShapes Go.WideShapes Go.ChangeAt Go.RowKit Go.Shelf
set_option linter.unusedVariables false
variable {q n Bs:Nat}{v:Value}{K:Nat->Int}
attribute [local go_sem] Oper.semAt_some
def bwl(q k:Nat):List Nat:=(List.range k).map (λj=>q-1-j)
theorem bwl_succ(q k:Nat):bwl q (k+1)=bwl q k++[q-1-k]:=by simp[bwl,List.range_succ]
def Ord(pre:List {j:Nat // j<q}):Prop:=pre.map (λx=>x.val)=bwl q pre.length
theorem Ord.nil:Ord ([]:List {j:Nat // j<q}):=rfl
theorem Ord.app{pre:List {j:Nat // j<q}}{x:{j:Nat // j<q}}(h:Ord (pre++[x])):Ord pre/\x.val=q-1-pre.length:=by
 unfold Ord at h;rw[List.map_append,List.length_append,List.length_cons,List.length_nil,Nat.zero_add,bwl_succ]at h;have h2:=List.append_inj' h rfl;exact⟨h2.1,by simpa using h2.2⟩
theorem Ord.push{pre:List {j:Nat // j<q}}{x:{j:Nat // j<q}}(h:Ord pre)(hx:x.val=q-1-pre.length):Ord (pre++[x]):=by
 unfold Ord;rw[List.map_append,List.length_append,List.length_cons,List.length_nil,Nat.zero_add,bwl_succ,show pre.map (λx=>x.val)=_ from h,<-hx];rfl
def Kp2(n Bs:Nat)(W W':World):Prop:=∀k,k<n\/k=Bs->W'.heap[k]? =W.heap[k]?
theorem Kp2.refl(n Bs:Nat)(W:World):Kp2 n Bs W W:=λ_ _=>rfl
theorem Kp2.trans{A B C:World}(h:Kp2 n Bs A B)(k:Kp2 n Bs B C):Kp2 n Bs A C:=λi hi=>(k i hi).trans (h i hi)
theorem Kp2.put{m:Nat}(hn:n<=m)(hB:Bs<m)(W:World)(l:Nat)(o':Obj)(hl:m<=l):Kp2 n Bs W (W.putObj l o'):=λk hk=>World.putObj_heap_other (by omega)
theorem bwi_in(n:Nat)(hn:1<=n)(l Bs:Nat)(w0:World)(hq:q<=1048576)(hr:RowV w0 v q (λi=>.int .i64 (K i)))(J Jx:List {j:Nat // j<q}->World->Prop)
    (hY:∀pre x W,J pre W->pre.length<q->YieldAt Fence.wide (n-1) Tryz.prog l #[.int .i64 x.val,.int .i64 (K x.val)] W λe W'=>
      (e=.returned (.bool true)/\J (pre++[x]) W'/\Kp2 w0.heap.size Bs W W')\/(e=.returned (.bool false)/\Jx (pre++[x]) W'))
    (W:World) (hW:∀k,k<w0.heap.size->W.heap[k]? =w0.heap[k]?) (hBs:W.cell? ⟨Bs,0,none⟩=some v) (h0:J [] W):
    CallsIn Fence.wide n Tryz.prog 103 #[.func (.yield l) #[] #[],.pointer (some ⟨Bs,0,none⟩)] W λe W'=>(∃v,e=.returned v)/\
      ((∃ys,(Ord ys/\ys.length=q)/\J ys W')\/(∃pre,Ord pre/\Jx pre W')):=by
  obtain⟨pa,ca,rfl,hr2⟩:=hr;have hqI:(q:Int)<=1048576:=by omega
  have HR:Hid (0<q->∃a:Addr,pa=some a/\q<=ca/\∀i,i<q->w0.cell? (a.add i)=some (.int .i64 (K i))):=hr2
  have HY : Hid (∀ pre x W, J pre W → pre.length < q → YieldAt Fence.wide (n - 1) Tryz.prog l #[.int .i64 (x.val : Int), .int .i64 (K x.val)] W fun e W' =>
      (e=.returned (.bool true)/\J (pre++[x]) W'/\Kp2 w0.heap.size Bs W W')\/(e=.returned (.bool false)/\Jx (pre++[x]) W')):=hY
  have HW:Hid ((∀k,k<w0.heap.size->W.heap[k]? =w0.heap[k]?)/\W.cell? ⟨Bs,0,none⟩=some (.slice pa q ca)):=(⟨hW,hBs⟩:_/\_)
  clear hr2 hY hW hq;refine callsIn_of_wp Tryz.func103 rfl trivial ?_ rfl;simp only[Tryz.ntmps103,List.size_toArray,List.length_cons,List.length_nil,Nat.reduceAdd,Nat.reduceSub,Array.replicate_succ,Array.replicate_zero,List.push_toArray,List.append_toArray,List.nil_append,List.cons_append]
  gi_wp2_with fail
  gi_loopw [3] (λi wr=>∃k:Nat,k<=q/\i=.int .i64 ((q:Int)-1-(k:Int))/\Hid (∃pre,pre.length=k/\Ord pre/\J pre wr/\Kp2 w0.heap.size Bs W wr)) (λi _=>(intOf i+1).toNat)
  case atStart=>exact⟨0,Nat.zero_le _,by first|rfl|simp,(⟨[],rfl,Ord.nil,h0,Kp2.refl _ _ _⟩:∃pre,_)⟩
  case round=>
    clear h0 hBs;obtain⟨k,hk,rfl,HI⟩:=hrel;obtain⟨pre,hpl,hord,hj,hkp⟩:=(uh HI)
    obtain⟨hW,hBs⟩:=(uh HW)
    have c0:wr.cell? ⟨Bs,0,none⟩=some (.slice pa q ca):=(World.cell?_of_block (hkp Bs (.inr rfl))).trans hBs;rcases Nat.lt_or_ge k q with hlt|hge
    · obtain⟨j,hjk⟩:∃j:Nat,j=q-1-k:=⟨_,rfl⟩
      have ej:(q:Int)-1-(k:Int)=(j:Int):=by omega
      obtain⟨a,rfl,hca,hra⟩:=(uh HR) (by omega)
      have q0:=hra j (by omega);have hl0:=lt_of_cell' q0;have qa:wr.cell? (a.add j)=some (.int .i64 (K j)):=(World.cell?_of_block ((hkp _ (.inl hl0)).trans (hW _ hl0))).trans q0;have hjq:(j:Int)<(q:Int):=by omega
      have hjN:j<q:=by omega
      obtain⟨fn,tmps,assign,body,hy,hR⟩:=(uh HY) pre ⟨j,hjN⟩ wr hj (by omega);have HX:Hid (Ord (pre++[⟨j,hjN⟩])/\(pre++[(⟨j,hjN⟩:{j:Nat // j<q})]).length=k+1/\Kp2 w0.heap.size Bs W wr):=(⟨hord.push (by show j=_;omega),by simp;omega,hkp⟩:_/\_/\_)
      rw[ej];dsimp only at hy;have hmk:(q:Int)-1-((k+1:Nat):Int)=(j:Int)-1:=by omega
      clear HI HY HR HW hord hj hkp hW hBs hra q0 hl0 ej hjk hpl
      gi_wp2
      refine hR.mono ?_;rintro e W3 (⟨rfl,hJ3,hk3⟩|⟨rfl,hJx3⟩)
      · have HX3:Hid (∃pre,pre.length=k+1/\Ord pre/\J pre W3/\Kp2 w0.heap.size Bs W W3):=(⟨_,HX.2.1,HX.1,hJ3,HX.2.2.trans hk3⟩:∃pre,_)
        clear HX hJ3 hk3 hR hy
        gi_wp2
        go_roundw
        case rel=>exact⟨k+1,by omega,by rw[hmk],HX3⟩
        case measure=>first|(simp[intOf];done)|(simp[intOf];omega)
      · gi_wp2
        refine bodyPost_ret (results_none rfl _ _ _) rfl ?_;exact⟨⟨_,rfl⟩,.inr ⟨_,HX.1,hJx3⟩⟩
    · have HX:Hid (∃pre,pre.length=k/\Ord pre/\J pre wr/\Kp2 w0.heap.size Bs W wr):=HI;obtain rfl:k=q:=by omega
      have ej:(k:Int)-1-(k:Int)=-1:=by omega
      rw[ej];clear HI HY HR HW hord hj hkp hW hBs
      gi_wp2
      go_end0
      obtain⟨pre,h1,h2,h3,_⟩:=(uh HX)
      exact⟨⟨_,rfl⟩,.inl ⟨pre,⟨h2,h1⟩,h3⟩⟩
theorem bwi_stops(n:Nat)(hn:1<=n)(Bs:Nat)(w0 w:World)(hq:q<=1048576)(hr:RowV w0 v q (λi=>.int .i64 (K i)))(hw:∀k,k<w0.heap.size->w.heap[k]? =w0.heap[k]?)(hs:w0.heap.size<=w.heap.size)(hBs:w.cell? ⟨Bs,0,none⟩=some v):
  SeqStopsK Fence.wide n Tryz.prog 103 #[.pointer (some ⟨Bs,0,none⟩)] (λx:{j:Nat // j<q}=>#[.int .i64 x.val,.int .i64 (K x.val)]) (Kp2 w0.heap.size Bs) (λys=>Ord ys/\ys.length=q) (λpre=>Ord pre) q w:=λl J Jx W hW _ _ hY h0=>
 bwi_in n hn l Bs w0 hq hr J Jx hY W (λk hk=>(hW.block k (by omega)).trans (hw k hk)) ((hW.cell (p:=⟨Bs,0,none⟩) (lt_of_cell hBs)).trans hBs) h0
theorem bwi_make(a:Option Addr)(len cap:Nat)(w:World):
  Calls Tryz.prog 83 #[.slice a len cap] w λe w'=>e=.returned (.func (.func 103) #[] #[.pointer (some ⟨w.heap.size,0,none⟩)])/\w'=w.alloc (.cells #[.slice a len cap] 42):=by
 go_enter Tryz.func83,Tryz.ntmps83;go_wp2;go_ret;exact⟨rfl,rfl⟩
attribute [local go_sem] Oper.semAt_some
def RowX(W:World)(v:Value)(n:Nat)(X:Nat->Fv)(VN VK:Nat->Value):Prop:=
 ∃pa cap,v=.slice pa n cap/\(0<n->∃a:Addr,pa=some a/\n<=cap/\∀i,i<n->Cel9 W (a.add (i*9)) (X i) (VN i) (VK i))
theorem Cel9.blk{W W':World}{b:Addr}{a:Fv}{vn vk:Value}(h:Cel9 W b a vn vk)(hb:W'.heap[b.block]? =W.heap[b.block]?):Cel9 W' b a vn vk:=
 have e:∀j,W'.cell? ⟨b.block,j,none⟩=W.cell? ⟨b.block,j,none⟩:=λj=>World.cell?_of_block hb
 ⟨(World.cell?_of_block hb).trans h.c0,(e _).trans h.c1,(e _).trans h.c2,(e _).trans h.c3,(e _).trans h.c4,(e _).trans h.c5,(e _).trans h.c6,(e _).trans h.c7,(e _).trans h.c8⟩
theorem bwk_in(n:Nat)(hn:1<=n)(l Bs:Nat)(w0:World){PK:Nat->Option Addr}{Q CK:Nat->Nat}(hq:q<=1048576)(hr:RowV w0 v q (λi=>.slice (PK i) (Q i) (CK i)))(J Jx:List {j:Nat // j<q}->World->Prop)
    (hY:∀pre x W,J pre W->pre.length<q->YieldAt Fence.wide (n-1) Tryz.prog l #[.int .i64 x.val,.slice (PK x.val) (Q x.val) (CK x.val)] W λe W'=>
      (e=.returned (.bool true)/\J (pre++[x]) W'/\Kp2 w0.heap.size Bs W W')\/(e=.returned (.bool false)/\Jx (pre++[x]) W'))
    (W:World) (hW:∀k,k<w0.heap.size->W.heap[k]? =w0.heap[k]?) (hBs:W.cell? ⟨Bs,0,none⟩=some v) (h0:J [] W):
    CallsIn Fence.wide n Tryz.prog 104 #[.func (.yield l) #[] #[],.pointer (some ⟨Bs,0,none⟩)] W λe W'=>(∃v,e=.returned v)/\
      ((∃ys,(Ord ys/\ys.length=q)/\J ys W')\/(∃pre,Ord pre/\Jx pre W')):=by
  obtain⟨pa,ca,rfl,hr2⟩:=hr;have hqI:(q:Int)<=1048576:=by omega
  have HR:Hid (0<q->∃a:Addr,pa=some a/\q<=ca/\∀i,i<q->w0.cell? (a.add i)=some (.slice (PK i) (Q i) (CK i))):=hr2
  have HY : Hid (∀ pre x W, J pre W → pre.length < q → YieldAt Fence.wide (n - 1) Tryz.prog l #[.int .i64 (x.val : Int), .slice (PK x.val) (Q x.val) (CK x.val)] W fun e W' =>
      (e=.returned (.bool true)/\J (pre++[x]) W'/\Kp2 w0.heap.size Bs W W')\/(e=.returned (.bool false)/\Jx (pre++[x]) W')):=hY
  have HW:Hid ((∀k,k<w0.heap.size->W.heap[k]? =w0.heap[k]?)/\W.cell? ⟨Bs,0,none⟩=some (.slice pa q ca)):=(⟨hW,hBs⟩:_/\_)
  clear hr2 hY hW hq;refine callsIn_of_wp Tryz.func104 rfl trivial ?_ rfl;simp only[Tryz.ntmps104,List.size_toArray,List.length_cons,List.length_nil,Nat.reduceAdd,Nat.reduceSub,Array.replicate_succ,Array.replicate_zero,List.push_toArray,List.append_toArray,List.nil_append,List.cons_append]
  gi_wp2_with fail
  gi_loopw [3] (λi wr=>∃k:Nat,k<=q/\i=.int .i64 ((q:Int)-1-(k:Int))/\Hid (∃pre,pre.length=k/\Ord pre/\J pre wr/\Kp2 w0.heap.size Bs W wr)) (λi _=>(intOf i+1).toNat)
  case atStart=>exact⟨0,Nat.zero_le _,by first|rfl|simp,(⟨[],rfl,Ord.nil,h0,Kp2.refl _ _ _⟩:∃pre,_)⟩
  case round=>
    clear h0 hBs;obtain⟨k,hk,rfl,HI⟩:=hrel;obtain⟨pre,hpl,hord,hj,hkp⟩:=(uh HI)
    obtain⟨hW,hBs⟩:=(uh HW)
    have c0:wr.cell? ⟨Bs,0,none⟩=some (.slice pa q ca):=(World.cell?_of_block (hkp Bs (.inr rfl))).trans hBs;rcases Nat.lt_or_ge k q with hlt|hge
    · obtain⟨j,hjk⟩:∃j:Nat,j=q-1-k:=⟨_,rfl⟩
      have ej:(q:Int)-1-(k:Int)=(j:Int):=by omega
      obtain⟨a,rfl,hca,hra⟩:=(uh HR) (by omega)
      have q0:=hra j (by omega);have hl0:=lt_of_cell' q0;have qa:wr.cell? (a.add j)=some (.slice (PK j) (Q j) (CK j)):=(World.cell?_of_block ((hkp _ (.inl hl0)).trans (hW _ hl0))).trans q0;have hjq:(j:Int)<(q:Int):=by omega
      have hjN:j<q:=by omega
      obtain⟨fn,tmps,assign,body,hy,hR⟩:=(uh HY) pre ⟨j,hjN⟩ wr hj (by omega);have HX:Hid (Ord (pre++[⟨j,hjN⟩])/\(pre++[(⟨j,hjN⟩:{j:Nat // j<q})]).length=k+1/\Kp2 w0.heap.size Bs W wr):=(⟨hord.push (by show j=_;omega),by simp;omega,hkp⟩:_/\_/\_)
      rw[ej];dsimp only at hy;have hmk:(q:Int)-1-((k+1:Nat):Int)=(j:Int)-1:=by omega
      clear HI HY HR HW hord hj hkp hW hBs hra q0 hl0 ej hjk hpl
      gi_wp2
      refine hR.mono ?_;rintro e W3 (⟨rfl,hJ3,hk3⟩|⟨rfl,hJx3⟩)
      · have HX3:Hid (∃pre,pre.length=k+1/\Ord pre/\J pre W3/\Kp2 w0.heap.size Bs W W3):=(⟨_,HX.2.1,HX.1,hJ3,HX.2.2.trans hk3⟩:∃pre,_)
        clear HX hJ3 hk3 hR hy
        gi_wp2
        go_roundw
        case rel=>exact⟨k+1,by omega,by rw[hmk],HX3⟩
        case measure=>first|(simp[intOf];done)|(simp[intOf];omega)
      · gi_wp2
        refine bodyPost_ret (results_none rfl _ _ _) rfl ?_;exact⟨⟨_,rfl⟩,.inr ⟨_,HX.1,hJx3⟩⟩
    · have HX:Hid (∃pre,pre.length=k/\Ord pre/\J pre wr/\Kp2 w0.heap.size Bs W wr):=HI;obtain rfl:k=q:=by omega
      have ej:(k:Int)-1-(k:Int)=-1:=by omega
      rw[ej];clear HI HY HR HW hord hj hkp hW hBs
      gi_wp2
      go_end0
      obtain⟨pre,h1,h2,h3,_⟩:=(uh HX)
      exact⟨⟨_,rfl⟩,.inl ⟨pre,⟨h2,h1⟩,h3⟩⟩
theorem bwk_make(a:Option Addr)(len cap:Nat)(w:World):
  Calls Tryz.prog 84 #[.slice a len cap] w λe w'=>e=.returned (.func (.func 104) #[] #[.pointer (some ⟨w.heap.size,0,none⟩)])/\w'=w.alloc (.cells #[.slice a len cap] 84):=by
 go_enter Tryz.func84,Tryz.ntmps84;go_wp2;go_ret;exact⟨rfl,rfl⟩
end Go.Proofs.YtkhdehngobkkfaaGreatDoor.Fo
namespace Go.Proofs.YtkhdehngobkkfaaGreatDoor.Fo
open Go.ChangeShapes Go.WideShapes Go.ChangeAt Go.RowKit
set_option linter.unusedVariables false
variable {F:Nat->Gv}{n i j:Nat}{at':Int}
theorem szl_at(hK:Kn F n)(hi:i<n):szl F n i=match bk (szl F n) (F i).K (F i).q (i:Int)with|some at'=>(i:Int)-at'+1|none=>0:=by
 have e:∀(q:Nat) (at':Int),(∀j,j<q->0<=(F i).K j/\(F i).K j<(i:Int))->bk (szl F i) (F i).K q at'=bk (szl F n) (F i).K q at':=by
  intro q
  induction q with
  |zero=>intro at' _;rfl
  |succ q ih=>
   intro at' h;have hq:=h q (by omega);unfold bk;rw[szl_stay F (show((F i).K q).toNat<i by omega) n (by omega)];split
   ·exact ih _ (λj hj=>h j (by omega))
   ·rfl
 rw[szl_stay F (show i<i+1 by omega) n (by omega)];show(if i=i then _ else szl F i i)=_;rw[if_pos rfl,e _ _ (hK i hi)];rfl
def bgn(F:Nat->Gv)(n k:Nat):Int:=(k:Int)+1-szl F n k
def Bak(F:Nat->Gv)(n i j:Nat)(at':Int):Prop:=bk (szl F n) (F i).K (F i).q (i:Int)=bk (szl F n) (F i).K j at'/\0<=at'/\at'<=(i:Int)
theorem Bak.start(F:Nat->Gv)(n i:Nat):Bak F n i (F i).q (i:Int):=⟨rfl,by omega,by omega⟩
theorem Bak.out(h:Bak F n i (j+1) at')(hK:Kn F n)(hi:i<n)(hk:(F i).K j≠at'-1):szl F n i=0:=by
 rw[szl_at hK hi,h.1];unfold bk;rw[if_neg (by omega)]
theorem Bak.step(h:Bak F n i (j+1) at')(hK:Kn F n)(hi:i<n)(hj:j<(F i).q)(hz:∀k,k<i->szl F n k≠0)(hk:(F i).K j=at'-1):Bak F n i j (bgn F n ((F i).K j).toNat):=by
 have hq:=hK i hi j hj;have hs:=szl_in hK n (Nat.le_refl _) ((F i).K j).toNat;have hz':=hz ((F i).K j).toNat (by omega);refine⟨?_,?_,?_⟩
 ·rw[h.1]
  conv=>lhs;unfold bk
  rw[if_pos ⟨hk,hz'⟩]
  congr 1
  unfold bgn;omega
 ·unfold bgn;omega
 ·unfold bgn;omega
theorem Bak.done(h:Bak F n i 0 at')(hK:Kn F n)(hi:i<n):szl F n i≠0/\bgn F n i=at':=by
 have e:szl F n i=(i:Int)-at'+1:=by
  rw[szl_at hK hi,h.1];unfold bk;rfl
 have:=h.2;unfold bgn;omega
inductive Dis (F:Nat->Gv) (n:Nat):Int->Prop
 |at (i:Nat):i<n->(∀j,j<i->szl F n j≠0)->szl F n i=0->Dis F n (i:Int)
 |last:(∀j,j<n->szl F n j≠0)->szl F n (n-1)≠(n:Int)->Dis F n ((n:Int)-1)
 |none:(∀j,j<n->szl F n j≠0)->szl F n (n-1)=(n:Int)->Dis F n (-1)
end Go.Proofs.YtkhdehngobkkfaaGreatDoor.Fo
namespace Go.Proofs.YtkhdehngobkkfaaGreatDoor.Fo
open Go.ChangeShapes Go.WideShapes Go.ChangeAt Go.RowKit Go.Shelf
set_option linter.unusedVariables false
variable {F:Nat->Gv}{n i M:Nat}{w W X X':World}{rs:List Nat}{v:Value}{at':Int}
attribute [local go_sem] Oper.semAt_some
def mks(rs:List Nat):List Deferred:=rs.map (λr=>{target:=.collected r,args:=#[]})
def Mks(b m:Nat)(rs:List Nat)(W:World):Prop:=rs.Nodup/\∀r,r ∈ rs->b<=r/\r<m/\W.heap[r]? =some (.deferred (some []))
theorem leaves_marks{F:Fence}{P:Program}{fn:Func}{tmps:Array Value}{R:Ending->World->Prop}:∀(rs:List Nat) (w:World),rs.Nodup->(∀r,r ∈ rs->w.heap[r]? =some (.deferred (some [])))->
  (∀w':World,w'.os=w.os->w'.output=w.output->w'.heap.size=w.heap.size->(∀k,k ∉ rs->w'.heap[k]? =w.heap[k]?)->LeavesInM F n P fn tmps R [] .returning w')->LeavesInM F n P fn tmps R (mks rs) .returning w:=by
 intro rs
 induction rs with
 |nil=>intro w _ _ h;exact h w rfl rfl rfl (λ_ _=>rfl)
 |cons r rs ih=>
  intro w hn hr h;have hr0:=hr r (by simp);have hnr:r ∉ rs:=(List.nodup_cons.1 hn).1;refine⟨by simp,.inl ⟨r,_,rfl,run_takeDeferred hr0,?_⟩⟩;refine ih _ (List.nodup_cons.1 hn).2 (λr' h'=>?_) (λw' h1 h2 h3 h4=>h w' h1 h2 (by rw[h3];simp) (λk hk=>?_))
  ·rw[World.putObj_heap_other (λe:r'=r=>hnr (e▸h'))];exact hr r' (by simp[h'])
  ·rw[h4 k (λe=>hk (by simp[e]))];exact World.putObj_heap_other (λe=>hk (by simp[e]))
structure Ds (w:World) (F:Nat->Gv) (n i:Nat) (W:World):Prop where
 os:W.os=w.os
 output:W.output=w.output
 size:w.heap.size+3<=W.heap.size
 old:∀k,k<w.heap.size->W.heap[k]? =w.heap[k]?
 res:W.heap[w.heap.size]? =some (.cells #[.int .i64 0] 3 (0,0))
 box:W.heap[w.heap.size+2]? =some (.cells #[.slice (some ⟨w.heap.size+1,0,none⟩) n n] 42 (0,0))
 row:∀k,k<n->W.cell? ⟨w.heap.size+1,k,none⟩=some (.int .i64 (if k<i then bgn F n k else 0))
 fz:∀k,W.frozen? ⟨w.heap.size+1,k,none⟩=false
theorem Ds.blk{W':World}(h:Ds w F n i W)(h1:W'.os=W.os)(h2:W'.output=W.output)(h3:W.heap.size<=W'.heap.size)(h4:∀k,k<w.heap.size+3->W'.heap[k]? =W.heap[k]?):Ds w F n i W':=
 ⟨h1.trans h.os,h2.trans h.output,Nat.le_trans h.size h3,λk hk=>(h4 k (by omega)).trans (h.old k hk),(h4 _ (by omega)).trans h.res,(h4 _ (by omega)).trans h.box,
  λk hk=>(World.cell?_of_block (h4 _ (by show w.heap.size+1<_;omega))).trans (h.row k hk),λk=>(World.frozen?_of_block (h4 _ (by show w.heap.size+1<_;omega))).trans (h.fz k)⟩
theorem ds_new(w:World)(F:Nat->Gv)(n:Nat):Ds w F n 0 (((w.alloc (.cells #[.int .i64 0] 3)).alloc (.cells (madeCells #[.int .i64 0] (n*Tryz.t3.size)) 3)).alloc (.cells #[.slice (some ⟨w.heap.size+1,0,none⟩) n n] 42)):=by
 refine⟨rfl,rfl,by simp,λk hk=>?_,?_,?_,λk hk=>?_,λk=>?_⟩
 ·rw[Below.heap_alloc _ _ _ (by simp;omega),Below.heap_alloc _ _ _ (by simp;omega),Below.heap_alloc _ _ _ hk]
 ·rw[Below.heap_alloc _ _ _ (by simp;omega),Below.heap_alloc _ _ _ (by simp)];exact World.alloc_heap_new _ _
 ·have:=World.alloc_heap_new ((w.alloc (.cells #[.int .i64 0] 3)).alloc (.cells (madeCells #[.int .i64 0] (n*Tryz.t3.size)) 3)) (.cells #[.slice (some ⟨w.heap.size+1,0,none⟩) n n] 42)
  simpa using this
 ·rw[if_neg (by omega),World.cell?_alloc_past _ _ _ (by simp)];rw[show w.heap.size+1=(w.alloc (.cells #[.int .i64 0] 3)).heap.size by simp];exact made_cell (w.alloc (.cells #[.int .i64 0] 3)) (.int .i64 0) 3 n rfl k hk
 ·rw[World.frozen?_alloc_past _ _ _ (by simp)];exact World.frozen?_alloc_at _ _ _ _ (by simp)
structure Di (w:World) (F:Nat->Gv) (n i:Nat) (rs:List Nat) (M:Nat) (pre:List {j:Nat // j<(F i).q}) (X:World):Prop where
 ds:Ds w F n i X
 mk2:Mks (w.heap.size+3) M rs X
 nb:X.heap[M]? =some (.cells #[.int .i64 i] 3 (0,0))
 ab:∃at':Int,X.heap[M+1+1]? =some (.cells #[.int .i64 at'] 3 (0,0))/\0<=at'/\at'<=(i:Int)/\(Ord pre->Bak F n i ((F i).q-pre.length) at')
 size:M+4<=X.heap.size
theorem Di.blk{pre:List {j:Nat // j<(F i).q}}(h:Di w F n i rs M pre X)(hM:w.heap.size+3<=M)(h1:X'.os=X.os)(h2:X'.output=X.output)(h3:X.heap.size<=X'.heap.size)(h4:∀k,k<M+4->X'.heap[k]? =X.heap[k]?):Di w F n i rs M pre X':=by
 obtain⟨at',a1,a2⟩:=h.ab;exact⟨h.ds.blk h1 h2 h3 (λk hk=>h4 k (by omega)),⟨h.mk2.1,λr hr=>⟨(h.mk2.2 r hr).1,(h.mk2.2 r hr).2.1,(h4 r (by have:=(h.mk2.2 r hr).2.1;omega)).trans (h.mk2.2 r hr).2.2⟩⟩,(h4 _ (by omega)).trans h.nb,⟨at',(h4 _ (by omega)).trans a1,a2⟩,Nat.le_trans h.size h3⟩
structure Dx (w:World) (F:Nat->Gv) (n i:Nat) (rs:List Nat) (M:Nat) (pre:List {j:Nat // j<(F i).q}) (X:World):Prop where
 os:X.os=w.os
 output:X.output=w.output
 old:∀k,k<w.heap.size->X.heap[k]? =w.heap[k]?
 res:X.heap[w.heap.size]? =some (.cells #[.int .i64 i] 3 (0,0))
 mk2:Mks (w.heap.size+3) M rs X
 size:M+4<=X.heap.size
 out:Ord pre->szl F n i=0
theorem Dx.blk{pre:List {j:Nat // j<(F i).q}}(h:Dx w F n i rs M pre X)(hM:w.heap.size+3<=M)(h1:X'.os=X.os)(h2:X'.output=X.output)(h3:X.heap.size<=X'.heap.size)(h4:∀k,k<M+4->X'.heap[k]? =X.heap[k]?):Dx w F n i rs M pre X':=
 ⟨h1.trans h.os,h2.trans h.output,λk hk=>(h4 k (by omega)).trans (h.old k hk),(h4 _ (by omega)).trans h.res,⟨h.mk2.1,λr hr=>⟨(h.mk2.2 r hr).1,(h.mk2.2 r hr).2.1,(h4 r (by have:=(h.mk2.2 r hr).2.1;omega)).trans (h.mk2.2 r hr).2.2⟩⟩,Nat.le_trans h.size h3,h.out⟩
theorem set_box{b:Nat}{t:TypeId}{u:Value}(h:X.heap[b]? =some (.cells #[u] t (0,0))):(X.setCell ⟨b,0,none⟩ v).heap[b]? =some (.cells #[v] t (0,0)):=by
 simp[World.setCell,Array.getElem?_modify,h]
theorem Di.out{pre:List {j:Nat // j<(F i).q}}{x:{j:Nat // j<(F i).q}}(h:Di w F n i rs M pre X)(hM:w.heap.size+3<=M)(hK:Kn F n)(hi:i<n)(hpl:pre.length<(F i).q)(ha:X.heap[M+1+1]? =some (.cells #[.int .i64 at'] 3 (0,0)))(hne:(F i).K x.val≠at'-1):
  Dx w F n i rs M (pre++[x]) (X.setCell ⟨w.heap.size,0,none⟩ (.int .i64 i)):=by
 have hse:∀k,k≠w.heap.size->(X.setCell ⟨w.heap.size,0,none⟩ (.int .i64 i)).heap[k]? =X.heap[k]?:=λk hk=>Below.heap_setCell X _ _ _ hk;obtain⟨at2,a1,a2,a3,a4⟩:=h.ab;obtain rfl:at2=at':=by rw[ha]at a1;simpa using a1.symm
 refine⟨h.ds.os,h.ds.output,λk hk=>(hse k (by omega)).trans (h.ds.old k hk),set_box h.ds.res,⟨h.mk2.1,λr hr=>⟨(h.mk2.2 r hr).1,(h.mk2.2 r hr).2.1,(hse r (by have:=(h.mk2.2 r hr).1;omega)).trans (h.mk2.2 r hr).2.2⟩⟩,by simpa using h.size,λho=>?_⟩;obtain⟨o1,o2⟩:=ho.app;have hx:=x.property;have hb:=a4 o1;rw[show(F i).q-pre.length=x.val+1 by omega]at hb;exact hb.out hK hi hne
theorem Di.step{pre:List {j:Nat // j<(F i).q}}{x:{j:Nat // j<(F i).q}}(h:Di w F n i rs M pre X)(hM:w.heap.size+3<=M)(hK:Kn F n)(hi:i<n)(hz:∀k,k<i->szl F n k≠0)(hpl:pre.length<(F i).q)(ha:X.heap[M+1+1]? =some (.cells #[.int .i64 at'] 3 (0,0)))(hne:(F i).K x.val=at'-1):
  Di w F n i rs M (pre++[x]) (X.setCell ⟨M+1+1,0,none⟩ (.int .i64 (bgn F n ((F i).K x.val).toNat))):=by
 have hse:∀k,k≠M+1+1->(X.setCell ⟨M+1+1,0,none⟩ (.int .i64 (bgn F n ((F i).K x.val).toNat))).heap[k]? =X.heap[k]?:=λk hk=>Below.heap_setCell X _ _ _ hk;obtain⟨at2,a1,a2,a3,a4⟩:=h.ab;obtain rfl:at2=at':=by rw[ha]at a1;simpa using a1.symm
 have hx:=x.property;have hkq:=hK i hi x.val hx;have hs:=szl_in hK n (Nat.le_refl _) ((F i).K x.val).toNat;have hz':=hz ((F i).K x.val).toNat (by omega);refine⟨h.ds.blk rfl rfl (by simp) (λk hk=>hse k (by omega)),⟨h.mk2.1,λr hr=>⟨(h.mk2.2 r hr).1,(h.mk2.2 r hr).2.1,(hse r (by have:=(h.mk2.2 r hr).2.1;omega)).trans (h.mk2.2 r hr).2.2⟩⟩,(hse _ (by omega)).trans h.nb,⟨_,set_box a1,?_,?_,λho=>?_⟩,by simpa using h.size⟩
 ·unfold bgn;omega
 ·unfold bgn;omega
 ·obtain⟨o1,o2⟩:=ho.app;have hb:=a4 o1;rw[show(F i).q-pre.length=x.val+1 by omega]at hb;rw[List.length_append,List.length_cons,List.length_nil,show(F i).q-(pre.length+(0+1))=x.val by omega];exact hb.step hK hi hx hz hne
theorem own_di(hM:w.heap.size+3<=M):OwnFrom (M+4) (Di w F n i rs M):=λpre X X' row h hg hr=>
 h.blk hM hg.os hg.output hg.size (λk hk=>hg.block k (by have:=h.size;omega) (λe=>by have:=(hr k e.symm).1;omega))
theorem own_dx(hM:w.heap.size+3<=M)(c:Code):OwnFrom (M+4) (λpre X=>c=.ret/\Dx w F n i rs M pre X):=λpre X X' row h hg hr=>
 ⟨h.1,h.2.blk hM hg.os hg.output hg.size (λk hk=>hg.block k (by have:=h.2.size;omega) (λe=>by have:=(hr k e.symm).1;omega))⟩
theorem di_new(hd:Ds w F n i W)(hm:Mks (w.heap.size+3) W.heap.size rs W)(o:Obj)(s:Obj):
  Di w F n i rs W.heap.size [] ((((W.alloc (.cells #[.int .i64 i] 3)).alloc o).alloc (.cells #[.int .i64 i] 3)).alloc s):=by
 have hk:∀k,k<W.heap.size->((((W.alloc (.cells #[.int .i64 i] 3)).alloc o).alloc (.cells #[.int .i64 i] 3)).alloc s).heap[k]? =W.heap[k]?:=λk hk=>by
  rw[Below.heap_alloc _ _ _ (by simp;omega),Below.heap_alloc _ _ _ (by simp;omega),Below.heap_alloc _ _ _ (by simp;omega),Below.heap_alloc _ _ _ hk]
 have hs:=hd.size;refine⟨hd.blk rfl rfl (by simp;omega) (λk h=>hk k (by omega)),⟨hm.1,λr hr=>⟨(hm.2 r hr).1,(hm.2 r hr).2.1,(hk r (hm.2 r hr).2.1).trans (hm.2 r hr).2.2⟩⟩,?_,⟨(i:Int),?_,by omega,by omega,λ_=>Bak.start F n i⟩,by simp⟩
 ·rw[Below.heap_alloc _ _ _ (by simp;omega),Below.heap_alloc _ _ _ (by simp;omega),Below.heap_alloc _ _ _ (by simp)];exact World.alloc_heap_new _ _
 ·rw[Below.heap_alloc _ _ _ (by simp)];have:=World.alloc_heap_new ((W.alloc (.cells #[.int .i64 i] 3)).alloc o) (.cells #[.int .i64 i] 3)
  simpa using this
theorem Di.next{xs:List {j:Nat // j<(F i).q}}(h:Di w F n i rs M xs X)(hM:w.heap.size+3<=M)(hK:Kn F n)(hi:i<n)(ho:Ord xs)(hl:xs.length=(F i).q)(ha:X.heap[M+1+1]? =some (.cells #[.int .i64 at'] 3 (0,0))){D:Nat}(hD:M+4<=D)(hx:X.heap[D]? =some (.deferred (some []))):
  Ds w F n (i+1) (X.setCell ⟨w.heap.size+1,i,none⟩ (.int .i64 at'))/\Mks (w.heap.size+3) (X.setCell ⟨w.heap.size+1,i,none⟩ (.int .i64 at')).heap.size (D::rs) (X.setCell ⟨w.heap.size+1,i,none⟩ (.int .i64 at'))/\szl F n i≠0:=by
 have hse:∀k,k≠w.heap.size+1->(X.setCell ⟨w.heap.size+1,i,none⟩ (.int .i64 at')).heap[k]? =X.heap[k]?:=λk hk=>Below.heap_setCell X _ _ _ hk;obtain⟨at2,a1,a2,a3,a4⟩:=h.ab;obtain rfl:at2=at':=by rw[ha]at a1;simpa using a1.symm
 have hb:=a4 ho;rw[hl,Nat.sub_self]at hb;obtain⟨b1,b2⟩:=hb.done hK hi;have hsz:=h.size;have hdl:D<X.heap.size:=(Array.getElem?_eq_some_iff.1 hx).1;refine⟨⟨h.ds.os,h.ds.output,by simpa using h.ds.size,λk hk=>(hse k (by omega)).trans (h.ds.old k hk),(hse _ (by omega)).trans h.ds.res,(hse _ (by omega)).trans h.ds.box,λk hk=>?_,λk=>by rw[set_fz];exact h.ds.fz k⟩,⟨?_,λr hr=>?_⟩,b1⟩
 ·by_cases e:k=i
  ·subst e;rw[if_pos (by omega),b2];exact set_eq _ _ _ _ _ (h.ds.row k hk)
  ·rw[set_ne _ _ _ _ _ e,h.ds.row k hk];by_cases e2:k<i
   ·rw[if_pos e2,if_pos (by omega)]
   ·rw[if_neg e2,if_neg (by omega)]
 ·refine List.nodup_cons.2 ⟨λhr=>?_,h.mk2.1⟩;have:=(h.mk2.2 D hr).2.1;omega
 ·rcases List.mem_cons.1 hr with rfl|hr
  ·exact⟨by omega,by simpa using hdl,(hse _ (by omega)).trans hx⟩
  ·have:=h.mk2.2 r hr;exact⟨this.1,by simp;omega,(hse _ (by omega)).trans this.2.2⟩
attribute [local go_sem] Oper.semAt_some
theorem im_disorder(w:World)(hf:RowF w v n F)(h0:0<n)(hn:n<=3000)(hK:Kn F n)(hq:∀i,i<n->(F i).q<=1048576):
    Calls Tryz.prog 51 #[v] w λe w'=>(∃r:Int,e=.returned (.int .i64 r)/\Dis F n r)/\w'.os=w.os/\w'.output=w.output/\w.heap.size<=w'.heap.size/\∀k,k<w.heap.size->w'.heap[k]? =w.heap[k]?:=by
  obtain⟨pf,cf,rfl,hf2⟩:=hf;obtain⟨c,rfl,hcc,hrc⟩:=hf2 h0;have hnI:(n:Int)<=3000:=by omega
  obtain⟨w0,hw0⟩:∃w0,w0=w.alloc (.cells #[.int .i64 0] 3):=⟨_,rfl⟩
  have hmk:=run_make (P:=Tryz.prog) w0 42 3 Tryz.t3 (.int .i64 0) Tryz.underlying42 (by kernel_rfl) (by kernel_rfl) .i64 .i64 (n:Int) (n:Int) (by omega) (Int.le_refl _) (by show(8:Int)*(n:Int)<=_;omega) (by omega);rw[Int.toNat_natCast]at hmk;obtain⟨w1,hw1⟩:∃w1,w1=w0.alloc (.cells (madeCells (.int .i64 0:Value).cells (n*Tryz.t3.size)) 3):=⟨_,rfl⟩
  rw[<-hw1]at hmk;have z0:w0.heap.size=w.heap.size+1:=by rw[hw0];simp
  have z1:w1.heap.size=w.heap.size+2:=by rw[hw1];simp[z0]
  rw[z0]at hmk;obtain⟨W0,hW0⟩:∃W0,W0=((w.alloc (.cells #[.int .i64 0] 3)).alloc (.cells (madeCells #[.int .i64 0] (n*Tryz.t3.size)) 3)).alloc (.cells #[.slice (some ⟨w.heap.size+1,0,none⟩) n n] 42):=⟨_,rfl⟩
  have HD0:Hid (Ds w F n 0 W0/\Mks (w.heap.size+3) W0.heap.size [] W0/\∀j,j<0->szl F n j≠0):=(⟨by rw[hW0];exact ds_new w F n,⟨List.nodup_nil,λr hr=>by cases hr⟩,λj hj=>by omega⟩:_/\_/\_)
  have HRC:Hid ((∀i,i<n->FormC w (c.add (i*9)) (F i))/\Kn F n/\∀i,i<n->(F i).q<=1048576):=(⟨hrc,hK,hq⟩:_/\_/\_)
  clear hf2 hrc hK hq;refine(callsIn_wide (n:=3)).1 ?_;refine callsIn_of_wp_marks Tryz.func51 rfl trivial ?_ rfl;simp only[Tryz.ntmps51,List.size_toArray,List.length_cons,List.length_nil,Nat.reduceAdd,Nat.reduceSub,Array.replicate_succ,Array.replicate_zero,List.push_toArray,List.append_toArray,List.nil_append,List.cons_append];rw[hw0]at hmk
  gi_wp2_with fail
  rw[<-hW0];clear hW0 hmk hw1 hw0 z0 z1;refine wpIn_loop (λa' W=>∃(i:Nat) (rs:List Nat) (u4 u5 u6 u8 u16 u17 u18 u19 u20 u21 u22 u23 u24 u25 u26 u27 u28 u29 u30 u31 u32 u33 u34 u35 u36 u37 u38 u39:Value),i<=n/\a'={tmps:=#[.slice (some c) n cf,undef,.pointer (some ⟨w.heap.size,0,none⟩),.pointer (some ⟨w.heap.size+1+1,0,none⟩),u4,u5,u6,undef,u8,undef,.slice (some c) n cf,.int .i64 n,.slice (some ⟨w.heap.size+1,0,none⟩) n n,.slice (some c) n cf,.int .i64 n,.int .i64 i,u16,u17,u18,u19,u20,u21,u22,u23,u24,u25,u26,u27,u28,u29,u30,u31,u32,u33,u34,u35,u36,u37,u38,u39,undef,undef,undef,undef,undef,undef,undef,undef,undef],defers:=mks rs}/\Hid (Ds w F n i W/\Mks (w.heap.size+3) W.heap.size rs W/\∀j,j<i->szl F n j≠0)) (λa' _=>n-(intOf (a'.tmps.getD 15 undef)).toNat) ?_ ?_
  · exact⟨0,[],undef,undef,undef,undef,undef,undef,undef,undef,undef,undef,undef,undef,undef,undef,undef,undef,undef,undef,undef,undef,undef,undef,undef,undef,undef,undef,undef,undef,Nat.zero_le _,rfl,HD0⟩
  rintro a' W ⟨i,rs,u4,u5,u6,u8,u16,u17,u18,u19,u20,u21,u22,u23,u24,u25,u26,u27,u28,u29,u30,u31,u32,u33,u34,u35,u36,u37,u38,u39,hin,rfl,HI⟩;clear HD0;obtain⟨hds,hmks,hz⟩:=(uh HI)
  obtain⟨hrc,hK,hq⟩:=(uh HRC)
  rcases Nat.lt_or_ge i n with hi|hi
  · have hiI:(i:Int)<(n:Int):=by omega
    obtain⟨vn,vk,hc9,hrn,hrk⟩:=hrc i hi;obtain⟨pn,cn,rfl,_⟩:=hrn;obtain⟨pk,ck,rfl,hk2⟩:=hrk;have hl0:=lt_of_cell' hc9.c0;obtain⟨e0,e1,e2,e3,e4,e5,e6,e7,e8⟩:=hc9.blk (hds.old _ hl0);have HMB:=λW=>bwi_make pk (F i).q ck W;have hM:=hds.size;have hqi:=hq i hi;have HDI:Hid (∀o s:Obj,Di w F n i rs W.heap.size [] ((((W.alloc (.cells #[.int .i64 i] 3)).alloc o).alloc (.cells #[.int .i64 i] 3)).alloc s)):=(λo s=>di_new hds hmks o s:∀o s:Obj,_)
    have HRK:Hid (RowV w (.slice pk (F i).q ck) (F i).q (λj=>.int .i64 ((F i).K j))):=⟨pk,ck,rfl,hk2⟩
    have HST:Hid (Kn F n/\i<n/\(∀j,j<i->szl F n j≠0)/\(F i).q<=1048576/\∀k,k<w.heap.size->W.heap[k]? =w.heap[k]?):=(⟨hK,hi,hz,hqi,hds.old⟩:_/\_/\_/\_/\_)
    clear HI hds hmks hz hrc hK hq hc9 hk2 hl0 hqi
    gi_wp2_with fail
    refine⟨trivial,(callsIn_wide.2 (HMB _)).mono ?_⟩;rintro en w4 ⟨rfl,hw4⟩
    gi_wp2_with fail
    clear e0 e1 e2 e3 e4 e5 e6 e7 e8 HMB;obtain⟨o5,ho5⟩:∃o5:Obj,o5=.cells #[.int .i64 (F i).a.k,.int .i64 (F i).a.f,.int .i64 (F i).a.t,.int .i64 (F i).a.l,.int .i64 (F i).a.o,.int .i64 (F i).a.m,.string (F i).a.x,.slice pn (F i).p cn,.slice pk (F i).q ck] 44:=⟨_,rfl⟩
    obtain⟨W4,hW4⟩:∃W4,W4=((((W.alloc (.cells #[.int .i64 i] 3)).alloc o5).alloc (.cells #[.int .i64 i] 3)).alloc (.cells #[.slice pk (F i).q ck] 42)):=⟨_,rfl⟩
    rw[<-ho5,<-hW4];clear hw4 w4 ho5;have z4:W4.heap.size=W.heap.size+4:=by rw[hW4];simp
    have d4:Di w F n i rs W.heap.size [] W4:=by rw[hW4];exact(uh HDI) _ _
    have s4:W4.cell? ⟨W.heap.size+1+1+1,0,none⟩=some (.slice pk (F i).q ck):=by
      rw[hW4];rw[World.cell?_alloc_at _ _ _ _ (by simp)];rfl
    have old4:∀k,k<w.heap.size->W4.heap[k]? =w.heap[k]?:=d4.ds.old;clear HDI hW4
    refine wpIn_rangeFunc_ownF (α:={j:Nat // j<(F i).q}) (n:=3) rfl (by omega) (gf:=103) (lb:=#[.pointer (some ⟨W.heap.size+1+1+1,0,none⟩)]) rfl trivial (enters_of Tryz.func103 (by kernel_rfl) rfl)
      (encs:=λx=>#[.int .i64 x.val,.int .i64 ((F i).K x.val)]) (Kp:=Kp2 w.heap.size (W.heap.size+1+1+1)) (bwi_stops 2 (by omega) (W.heap.size+1+1+1) w W4 HST.2.2.2.1 HRK old4 (by omega) s4)
      (λh k=>Kp2.trans h k) (λX l o o' hl _ _ _=>Kp2.put (m:=W4.heap.size) (by omega) (by omega) X l o' hl) (Below.refl _ _) (λ_=>rfl)
      (Di w F n i rs W.heap.size) (λc pre X=>c=.ret/\Dx w F n i rs W.heap.size pre X) (by rw[z4];exact own_di hM) (by rw[z4];exact own_dx hM) d4
      (λx=>{tmps:=#[.slice (some c) n cf,undef,.pointer (some ⟨w.heap.size,0,none⟩),.pointer (some ⟨w.heap.size+1+1,0,none⟩),.pointer (some ⟨W.heap.size,0,none⟩),.pointer (some ⟨W.heap.size+1,0,none⟩),.pointer (some ⟨W.heap.size+1+1,0,none⟩),undef,.int .i64 ((F i).K x.val),undef,.slice (some c) n cf,.int .i64 n,.slice (some ⟨w.heap.size+1,0,none⟩) n n,.slice (some c) n cf,.int .i64 n,.int .i64 i,.bool true,.int .i64 i,.pointer (some (c.add (i*9))),.agg #[.int .i64 (F i).a.k,.int .i64 (F i).a.f,.int .i64 (F i).a.t,.int .i64 (F i).a.l,.int .i64 (F i).a.o,.int .i64 (F i).a.m,.string (F i).a.x,.slice pn (F i).p cn,.slice pk (F i).q ck],.int .i64 i,.pointer (some ⟨W.heap.size+1,8,none⟩),.slice pk (F i).q ck,.func (.func 103) #[] #[.pointer (some ⟨W.heap.size+1+1+1,0,none⟩)],.int .i64 x.val,.int .i64 ((F i).K x.val),u26,u27,u28,u29,u30,u31,u32,u33,u34,u35,u36,u37,u38,u39,undef,undef,undef,undef,undef,undef,undef,undef,undef],defers:=[]}) ?assign ?body ?done ?stop
    case assign=>
      intro l x X K hKK
      gi_wp2
      exact hKK
    case body=>
      intro l pre x X hi2 hpl;obtain⟨hK,hi,hz,hqi,_⟩:=(uh HST)
      obtain⟨at',a1,a2,a3,_⟩:=hi2.ab;have hkx:=hK i hi x.val x.property;have c6:X.cell? ⟨W.heap.size+1+1,0,none⟩=some (.int .i64 at'):=by simp[World.cell?,a1]
      have q6:X.frozen? ⟨W.heap.size+1+1,0,none⟩=false:=by simp[World.frozen?,a1]
      have c4:X.cell? ⟨W.heap.size,0,none⟩=some (.int .i64 i):=by simp[World.cell?,hi2.nb]
      have c3:X.cell? ⟨w.heap.size+1+1,0,none⟩=some (.slice (some ⟨w.heap.size+1,0,none⟩) n n):=by simp[World.cell?,hi2.ds.box]
      have c2:X.cell? ⟨w.heap.size,0,none⟩=some (.int .i64 0):=by simp[World.cell?,hi2.ds.res]
      have q2:X.frozen? ⟨w.heap.size,0,none⟩=false:=by simp[World.frozen?,hi2.ds.res]
      have hat:at'<=3000:=by omega
      obtain⟨kx,hkxe⟩:∃kx,kx=(F i).K x.val:=⟨_,rfl⟩
      try dsimp only
      rw[<-hkxe]at hkx;by_cases g:kx=at'-1
      · obtain⟨kk,hkk⟩:∃kk:Nat,kx=(kk:Int):=⟨kx.toNat,by omega⟩
        have g':((kk:Int) !=at'-1)=false:=by rw[<-hkk,g];simp
        have crow:X.cell? ⟨w.heap.size+1,kk,none⟩=some (.int .i64 (bgn F n kk)):=by
          have:=hi2.ds.row kk (by omega);rw[if_pos (by omega)]at this;exact this
        have HS:Hid (ownPostK (Kp2 w.heap.size (W.heap.size+1+1+1)) (Di w F n i rs W.heap.size) (λc pre X=>c=.ret/\Dx w F n i rs W.heap.size pre X) (pre++[x]) X .normal {tmps:=#[],defers:=[]} (X.setCell ⟨W.heap.size+1+1,0,none⟩ (.int .i64 (bgn F n kk)))):=by
          refine(⟨KeepsOthers.setCell _ _ _,λk hk=>Below.heap_setCell X ⟨W.heap.size+1+1,0,none⟩ _ k (by show k≠W.heap.size+1+1;omega),?_⟩:KeepsOthers _ _/\Kp2 w.heap.size (W.heap.size+1+1+1) _ _/\Di w F n i rs W.heap.size (pre++[x]) _);have:=hi2.step (x:=x) hM hK hi hz hpl a1 (by rw[<-hkxe];exact g);rw[<-hkxe,hkk]at this;exact this
        have hkN:(kk:Int)<(n:Int):=by omega
        generalize bgn F n kk=bb at crow HS;rw[<-hkxe,hkk];clear hK hz hqi hkx hi2 a1 g hkk hkxe HST HRK d4 s4 old4
        gi_wp2_with fail
        exact HS
      · have g':(kx !=at'-1)=true:=by simpa using g
        have HS:Hid (ownPostK (Kp2 w.heap.size (W.heap.size+1+1+1)) (Di w F n i rs W.heap.size) (λc pre X=>c=.ret/\Dx w F n i rs W.heap.size pre X) (pre++[x]) X .ret {tmps:=#[],defers:=[]} (X.setCell ⟨w.heap.size,0,none⟩ (.int .i64 i))):=
          (⟨KeepsOthers.setCell _ _ _,rfl,hi2.out (x:=x) hM hK hi hpl a1 (by rw[<-hkxe];exact g)⟩:_/\_/\_)
        rw[<-hkxe];clear hK hz hqi hkx hi2 a1 g hkxe HST HRK d4 s4 old4
        gi_wp2_with fail
        exact HS
    case done=>
      rintro D xs X hD ⟨ho,hl⟩ hi2 hx;obtain⟨hK,hi,hz,hqi,_⟩:=(uh HST)
      obtain⟨at',a1,a2,a3,_⟩:=hi2.ab;have nx:=hi2.next hM hK hi ho hl a1 (D:=D) (by omega) hx;have c6:X.cell? ⟨W.heap.size+1+1,0,none⟩=some (.int .i64 at'):=by simp[World.cell?,a1]
      have c4:X.cell? ⟨W.heap.size,0,none⟩=some (.int .i64 i):=by simp[World.cell?,hi2.nb]
      have c3:X.cell? ⟨w.heap.size+1+1,0,none⟩=some (.slice (some ⟨w.heap.size+1,0,none⟩) n n):=by simp[World.cell?,hi2.ds.box]
      have crow:=hi2.ds.row i hi;have qrow:=hi2.ds.fz i;rw[if_neg (by omega)]at crow
      have HX:Hid (Ds w F n (i+1) (X.setCell ⟨w.heap.size+1,i,none⟩ (.int .i64 at'))/\Mks (w.heap.size+3) (X.setCell ⟨w.heap.size+1,i,none⟩ (.int .i64 at')).heap.size (D::rs) (X.setCell ⟨w.heap.size+1,i,none⟩ (.int .i64 at'))/\∀j,j<i+1->szl F n j≠0):=(⟨nx.1,nx.2.1,λj hj=>by
        by_cases e:j=i
        · rw[e];exact nx.2.2
        · exact hz j (by omega)⟩:_/\_/\_)
      clear hK hz hqi hi2 a1 nx HST HRK d4 s4 old4 ho hl
      gi_wp2_with fail
      refine⟨⟨i+1,D::rs,_,_,_,_,_,_,_,_,_,_,_,_,_,_,_,_,_,_,_,_,_,_,_,_,_,_,_,_,by omega,rfl,HX⟩,?_⟩;simp[intOf];omega
    case stop=>
      rintro D c' pre X hD hSp ⟨rfl,hix⟩ hx;obtain⟨hK,hi,hz,hqi,_⟩:=(uh HST)
      have HX:Hid (Dx w F n i rs W.heap.size pre X/\Dis F n (i:Int)):=(⟨hix,.at i hi hz (hix.out hSp)⟩:_/\_)
      clear hK hz hqi HST HRK d4 s4 old4
      gi_wp2_with fail
      refine leaves_marks (D::rs) X ?_ (λr hr=>?_) (λw' h1 h2 h3 h4=>?_)
      · refine List.nodup_cons.2 ⟨λhr=>?_,hix.mk2.1⟩;have:=(hix.mk2.2 D hr).2.1;omega
      · rcases List.mem_cons.1 hr with rfl|hr
        · exact hx
        · exact(hix.mk2.2 r hr).2.2
      · have hN : w.heap.size ∉ D :: rs := fun hr => by
          rcases List.mem_cons.1 hr with e|hr
          · omega
          · have:=(hix.mk2.2 _ hr).1;omega
        have hb:=(h4 _ hN).trans hix.res;have g0:w'.cell? ⟨w.heap.size,0,none⟩=some (.int .i64 i):=by simp[World.cell?,hb]
        have hsz:=hix.size;refine⟨_,by simp[results,Tryz.results51,go_sem,g0];rfl,?_⟩;refine⟨⟨(i:Int),rfl,HX.2⟩,h1.trans hix.os,h2.trans hix.output,by omega,λk hk=>(h4 k (λhr=>?_)).trans (hix.old k hk)⟩;rcases List.mem_cons.1 hr with e|hr
        · omega
        · have:=(hix.mk2.2 _ hr).1;omega
  · have ei:i=n:=by omega
    rw[ei]at hds hz⊢;clear HI HRC hrc hq hin hi ei;obtain⟨m,hm⟩:∃m:Nat,m=n-1:=⟨_,rfl⟩
    have hm1:(n:Int)-1=(m:Int):=by omega
    have hmI:(m:Int)<(n:Int):=by omega
    have crow:=hds.row m (by omega);rw[if_pos (by omega)]at crow;have c3:W.cell? ⟨w.heap.size+1+1,0,none⟩=some (.slice (some ⟨w.heap.size+1,0,none⟩) n n):=by simp[World.cell?,hds.box]
    have c2:W.cell? ⟨w.heap.size,0,none⟩=some (.int .i64 0):=by simp[World.cell?,hds.res]
    have q2:W.frozen? ⟨w.heap.size,0,none⟩=false:=by simp[World.frozen?,hds.res]
    have hs:=szl_in hK n (Nat.le_refl _) m
    have FIN:Hid (∀r:Int,Dis F n r->∀tmps:Array Value,tmps[2]? =some (.pointer (some ⟨w.heap.size,0,none⟩))->LeavesInM Fence.wide 3 Tryz.prog Tryz.f51 tmps (λe w'=>(∃r:Int,e=.returned (.int .i64 r)/\Dis F n r)/\w'.os=w.os/\w'.output=w.output/\w.heap.size<=w'.heap.size/\∀k,k<w.heap.size->w'.heap[k]? =w.heap[k]?) (mks rs) .returning (W.setCell ⟨w.heap.size,0,none⟩ (.int .i64 r))):=(λr hr tmps ht=>by
      have hse:∀k,k≠w.heap.size->(W.setCell ⟨w.heap.size,0,none⟩ (.int .i64 r)).heap[k]? =W.heap[k]?:=λk hk=>Below.heap_setCell W _ _ _ hk;refine leaves_marks rs _ hmks.1 (λr' hr'=>(hse r' (by have:=(hmks.2 r' hr').1;omega)).trans (hmks.2 r' hr').2.2) (λw' h1 h2 h3 h4=>?_);have hN:w.heap.size ∉ rs:=λhr=>by have:=(hmks.2 _ hr).1;omega
      have hb:=(h4 _ hN).trans (set_box hds.res);have g0:w'.cell? ⟨w.heap.size,0,none⟩=some (.int .i64 r):=by simp[World.cell?,hb]
      have hsz:=hds.size;have h3':w'.heap.size=W.heap.size:=by rw[h3];simp
      refine⟨_,by simp[results,Tryz.results51,go_sem,g0,ht];rfl,?_⟩
      exact⟨⟨r,rfl,hr⟩,h1.trans hds.os,h2.trans hds.output,by omega,λk hk=>(h4 k (λhr=>by have:=(hmks.2 _ hr).1;omega)).trans ((hse k (by omega)).trans (hds.old k hk))⟩:∀r:Int,_)
    by_cases g:0<bgn F n m
    · have hD:Dis F n (m:Int):=by rw[<-hm1];exact .last hz (by rw[<-hm];unfold bgn at g;omega)
      have HF:=(show ∀r:Int,Dis F n r->∀tmps:Array Value,_->_ from FIN) (m:Int) hD;have HF2:Hid (∀tmps:Array Value,tmps[2]? =some (.pointer (some ⟨w.heap.size,0,none⟩))->LeavesInM Fence.wide 3 Tryz.prog Tryz.f51 tmps (λe w'=>(∃r:Int,e=.returned (.int .i64 r)/\Dis F n r)/\w'.os=w.os/\w'.output=w.output/\w.heap.size<=w'.heap.size/\∀k,k<w.heap.size->w'.heap[k]? =w.heap[k]?) (mks rs) .returning (W.setCell ⟨w.heap.size,0,none⟩ (.int .i64 m))):=HF;generalize bgn F n m=bb at g crow;clear HF FIN hD hm hs hds hmks hz hK
      gi_wp2_with fail
      exact HF2 _ rfl
    · have hD:Dis F n (-1):=.none hz (by rw[<-hm];unfold bgn at g;omega);have HF2:Hid (∀tmps:Array Value,tmps[2]? =some (.pointer (some ⟨w.heap.size,0,none⟩))->LeavesInM Fence.wide 3 Tryz.prog Tryz.f51 tmps (λe w'=>(∃r:Int,e=.returned (.int .i64 r)/\Dis F n r)/\w'.os=w.os/\w'.output=w.output/\w.heap.size<=w'.heap.size/\∀k,k<w.heap.size->w'.heap[k]? =w.heap[k]?) (mks rs) .returning (W.setCell ⟨w.heap.size,0,none⟩ (.int .i64 (-1)))):=(show ∀r:Int,Dis F n r->∀tmps:Array Value,_->_ from FIN) (-1) hD;generalize bgn F n m=bb at g crow;clear FIN hD hm hs hds hmks hz hK
      gi_wp2_with fail
      exact HF2 _ rfl
