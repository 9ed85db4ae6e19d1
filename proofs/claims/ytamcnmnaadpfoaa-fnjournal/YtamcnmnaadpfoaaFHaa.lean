import Derived.Test.YtamcnmnaadpfoaaFPaf
import Derived.Test.YtamcnmnaadpfoaaFGdc
import Derived.MapKept
import Derived.Deep.QuietTactic
import Derived.BigQuiet
import Derived.Deep.RegionHeld3
import Derived.Deep.AppendLies
set_option maxHeartbeats 8000000
namespace Go.Proofs.Ytamcnmnaadpfoaa.Fo
open Go.ChangeShapes Go.WideShapes Go.ChangeAt Go.RowKit
set_option linter.unusedVariables false
set_option maxRecDepth 100000
def pk (A:Addr) (r:Int):Value:=.pointer (some (A.add (r.toNat*2)))
theorem tP:Try.prog.underlying 140=some (.pointer 50):=by kernel_rfl
theorem sizT (w:World):(sizeOf 50).run Try.prog w = .ok 2 w:=by kernel_rfl
theorem ad_b (A:Addr) (n:Nat):(A.add n).block=A.block:=by unfold Addr.add;split <;> rfl
theorem ad_o (A:Addr) (n:Nat):(A.add n).off=A.off+n:=by
 unfold Addr.add
 split
 ·rename_i h;rw [h];rfl
 ·rfl
theorem add_inj {A:Addr} {r s:Int} (hr : 0≤r) (hs : 0≤s):(A.add (r.toNat*2) == A.add (s.toNat*2))=dc (r=s):=by
 by_cases h:r=s
 ·subst h;rw [dc_t rfl];simp
 ·rw [dc_f h]
  rw [beq_eq_false_iff_ne]
  intro e
  have:A.off+r.toNat*2=A.off+s.toNat*2:=by
   have:=congrArg Addr.off e
   rwa [ad_o,ad_o] at this
  omega
theorem eq_pk {A:Addr} {r s:Int} (hr : 0≤r) (hs : 0≤s) (w:World):(Op.equal 140 (pk A r) (pk A s)).run Try.prog w = .ok (dc (r=s)) w:=by
 show (Op.equalIn (9999+1) 140 (.pointer (some (A.add (r.toNat*2)))) (.pointer (some (A.add (s.toNat*2))))).run Try.prog w = _
 unfold Op.equalIn
 simp only [Sem.run_bind,run_underlying tP,Result.andThen_ok,sizT,sameAddr,ad_b]
 simp
 exact add_inj (A:=A) hr hs
noncomputable def lkn (r:Int):List Int→Nat→Option Int
 | [],_=>none
 | x :: L,k=>if dc (r=x) then some (k:Int) else lkn r L (k+1)
theorem lkn_spec (r:Int):∀ (L:List Int) (k:Nat),lkn r L k=if r ∈ L then some ((L.idxOf r+k:Nat):Int) else none
 | [],k=>by rw [if_neg (by simp)];rfl
 | x :: L,k=>by
  unfold lkn
  by_cases h:r=x
  ·subst h
   rw [dc_t rfl,if_pos rfl,if_pos (List.mem_cons_self)]
   simp
  ·rw [dc_f h,if_neg (by simp),lkn_spec r L (k+1)]
   by_cases q:r ∈ L
   ·rw [if_pos q,if_pos (List.mem_cons_of_mem _ q),List.idxOf_cons,show (x == r)=false from beq_eq_false_iff_ne.2 (fun e=>h e.symm)]
    have:L.idxOf r+(k+1)=L.idxOf r+1+k:=by omega
    rw [this]
    rfl
   ·rw [if_neg q,if_neg (by simp [h,q])]
def pes (A:Addr):List Int→Nat→List (Value × Value)
 | [],_=>[]
 | x :: L,k=>(pk A x,.int .i64 (k:Int)) :: pes A L (k+1)
theorem pes_app (A:Addr) (x:Int):∀ (L:List Int) (k:Nat),pes A (L ++ [x]) k=pes A L k ++ [(pk A x,.int .i64 ((L.length+k:Nat):Int))]
 | [],k=>by simp [pes]
 | y :: L,k=>by
  show _ :: pes A (L ++ [x]) (k+1) = _ :: (pes A L (k+1) ++ _)
  rw [pes_app A x L (k+1)]
  have:L.length+(k+1)=(y :: L).length+k:=by simp only [List.length_cons];omega
  rw [this]
def Ents (A:Addr) (l:List MapEntry) (L:List Int) (k:Nat):Prop:=l.map (fun e=>(e.key,e.val))=pes A L k
theorem run_ask {A:Addr} {r:Int} (hr : 0≤r) (w:World):∀ (l:List MapEntry) (L:List Int) (k i:Nat),(∀ x ∈ L,0≤x)→Ents A l L k→∃ q,(Instr.findAsking 140 (pk A r) l i).run Try.prog w = .ok q w∧q.map Prod.snd=(lkn r L k).map (fun t=>Value.int .i64 t)
 | [],L,k,i,hL,h=>by
  have:L = []:=by
   cases L with
   | nil=>rfl
   | cons p L=>simp [Ents,pes] at h
  subst this
  exact ⟨none,rfl,rfl⟩
 | e :: l,L,k,i,hL,h=>by
  cases L with
  | nil=>simp [Ents,pes] at h
  | cons p L =>
   have h':(e.key=pk A p∧e.val = .int .i64 (k:Int))∧Ents A l L (k+1):=by simpa [Ents,pes] using h
   obtain ⟨⟨h1,h2⟩,h3⟩:=h'
   unfold Instr.findAsking
   simp only [Sem.run_bind,h1,eq_pk hr (hL p List.mem_cons_self),Result.andThen_ok]
   unfold lkn
   cases q:dc (r=p)
   ·simp only [Bool.false_eq_true,if_false]
    exact run_ask hr w l L (k+1) (i+1) (fun x hx=>hL x (List.mem_cons_of_mem _ hx)) h3
   ·simp only [if_true]
    exact ⟨some (i,e.val),rfl,by simp [h2]⟩
theorem run_findPk {A:Addr} {r:Int} (hr : 0≤r) (w:World) (l:List MapEntry) (L:List Int) (hL:∀ x ∈ L,0≤x) (h:Ents A l L 0):∃ q,(Instr.findKey 140 (pk A r) l).run Try.prog w = .ok q w∧q.map Prod.snd=(lkn r L 0).map (fun t=>Value.int .i64 t):=by
 unfold Instr.findKey
 simp only [Sem.run_bind,run_underlying tP,Result.andThen_ok]
 cases l with
 | nil =>
  have:L = []:=by
   cases L with
   | nil=>rfl
   | cons p L=>simp [Ents,pes] at h
  subst this
  exact ⟨none,rfl,rfl⟩
 | cons e l =>
  have:Instr.findNow (.pointer 50) (pk A r) (e :: l) 0=none:=rfl
  rw [this]
  exact run_ask hr w (e :: l) L 0 0 hL h
theorem run_checkPk (b:Bool) (A:Addr) (r:Int) (w:World):(Instr.checkKey b 10000 140 (pk A r)).run Try.prog w = .ok () w:=by kernel_rfl
def Mn (A:Addr) (M:Nat) (L:List Int) (w:World):Prop:=∃ es clock,w.heap[M]? = some (.map es clock)∧Ents A es.toList L 0
theorem tM:Try.prog.underlying 134=some (.map 140 3):=by kernel_rfl
theorem run_lookPk {A:Addr} {r:Int} {w:World} {M:Nat} {L:List Int} (h:Mn A M L w) (hr : 0≤r) (hL:∀ x ∈ L,0≤x):(Instr.lookup 134 (.map (some M)) (pk A r) true).run Try.prog w = .ok (if r ∈ L then .tuple #[.int .i64 (L.idxOf r:Int),.bool true] else .tuple #[.int .i64 0,.bool false]) w:=by
 obtain ⟨es,clock,hb,he⟩:=h
 obtain ⟨q,hq,hv⟩:=run_findPk hr w es.toList L hL he
 rw [lkn_spec] at hv
 unfold Instr.lookup
 simp only [Sem.run_bind,run_underlying tM,Result.andThen_ok,MapKept.run_getObj_map hb,Sem.run_pure,run_checkPk,hq]
 by_cases m:r ∈ L
 ·rw [if_pos m] at hv ⊢
  cases q with
  | none=>cases hv
  | some p =>
   obtain ⟨i,v⟩:=p
   have:v = .int .i64 (L.idxOf r:Int):=by simpa using hv
   subst this
   rfl
 ·rw [if_neg m] at hv ⊢
  cases q with
  | none =>
   have hz:(zeroValue 3).run Try.prog w = .ok (.int .i64 0) w:=by kernel_rfl
   simp only [Sem.run_bind,hz,Result.andThen_ok,Sem.run_pure]
   rfl
  | some p=>cases hv
def setB (w:World) (M:Nat) (o:Obj):World:={ w with heap:=w.heap.setIfInBounds M o }
theorem setB_ne (w:World) (M:Nat) (o:Obj) (b:Nat) (h:b ≠ M):(setB w M o).heap[b]? = w.heap[b]?:=by
 unfold setB
 show (w.heap.setIfInBounds M o)[b]? = _
 rw [Array.getElem?_setIfInBounds,if_neg (fun e=>h e.symm)]
theorem setB_size (w:World) (M:Nat) (o:Obj):(setB w M o).heap.size=w.heap.size:=by
 unfold setB
 show (w.heap.setIfInBounds M o).size = _
 rw [Array.size_setIfInBounds]
theorem run_updPk {A:Addr} {r:Int} {w:World} {M:Nat} {L:List Int} (h:Mn A M L w) (hr : 0≤r) (hL:∀ x ∈ L,0≤x) (hn:r ∉ L):∃ o,(Instr.mapUpdate 134 (.map (some M)) (pk A r) (.int .i64 (L.length:Int))).run Try.prog w = .ok () (setB w M o)∧Mn A M (L ++ [r]) (setB w M o):=by
 obtain ⟨es,clock,hb,he⟩:=h
 obtain ⟨q,hq,hv⟩:=run_findPk hr w es.toList L hL he
 rw [lkn_spec,if_neg hn] at hv
 have hr0:q=none:=by
  cases q with
  | none=>rfl
  | some p=>cases hv
 subst hr0
 refine ⟨.map (es.push { key:=pk A r,val:=.int .i64 (L.length:Int),born:=clock }) (clock+1),?_,?_⟩
 ·unfold Instr.mapUpdate
  simp only [Sem.run_bind,run_underlying tM,Result.andThen_ok,MapKept.run_getObj_map hb,run_checkPk,hq,MapKept.run_setObj_map _ hb]
  rfl
 ·refine ⟨_,_,(MapKept.heap_set hb).1,?_⟩
  unfold Ents at he ⊢
  simp [he,pes_app]
theorem run_makePk (w:World):(Instr.makeMap 134 none).run Try.prog w = .ok (.map (some w.heap.size)) (w.alloc (.map #[] 0)):=by kernel_rfl
theorem Mn.new (A:Addr) (w:World):Mn A w.heap.size [] (w.alloc (.map #[] 0)):=⟨#[],0,(MapKept.heap_alloc w _).1,rfl⟩
theorem Mn.keep {A:Addr} {M:Nat} {L:List Int} {w W:World} (h:Mn A M L w) (k:W.heap[M]? = w.heap[M]?):Mn A M L W:=by
 obtain ⟨es,clock,hb,he⟩:=h
 exact ⟨es,clock,k.trans hb,he⟩
structure NS (B:Nat) (pn:Option Addr) (A:Addr) (n cn nb mb:Nat) (o:List Int) (vo:Value) (W:World):Prop where
 pa : 0 < n→pn=some A
 bk:W.heap[nb]? = some (.cells #[.slice pn n cn,.map (some mb),vo] 137 (0,0))
 mp:Mn A mb o W
 oo:W.ownsRow B 140 1 vo o.length (o.map (pk A))
 nl:Nl n o
structure Fo3 (nb mb:Nat) (r:Option Nat) (W w':World):Prop where
 os:w'.os=W.os
 output:w'.output=W.output
 size:W.heap.size≤w'.heap.size
 block:∀ k,k < W.heap.size→k ≠ nb→k ≠ mb→some k ≠ r→w'.heap[k]? = W.heap[k]?
theorem NS.lt {B:Nat} {pn:Option Addr} {A:Addr} {n cn nb mb:Nat} {o:List Int} {vo:Value} {W:World} (h:NS B pn A n cn nb mb o vo W):nb < W.heap.size∧mb < W.heap.size∧nb ≠ mb∧∀ g,vo.ownBlock=some g→g ≠ nb∧g ≠ mb∧B≤g∧g < W.heap.size:=by
 obtain ⟨es,cl,hm,_⟩:=h.mp
 have h1:nb < W.heap.size:=(Array.getElem?_eq_some_iff.1 h.bk).1
 have h2:mb < W.heap.size:=(Array.getElem?_eq_some_iff.1 hm).1
 refine ⟨h1,h2,fun e=>?_,fun g e=>⟨own_ty h.oo h.bk (by decide) e,fun q=>?_,(h.oo.lt g e).1,(h.oo.lt g e).2⟩⟩
 ·rw [← e,h.bk] at hm;cases hm
 ·rcases h.oo.2 with ⟨q',_⟩ | ⟨g1,c1,u1,q1,_,q3,_⟩
  ·rw [q'] at e;cases e
  ·rw [q1] at e
   have a:g1=g:=Option.some.inj e
   subst a
   rw [q,hm] at q3
   cases q3
theorem NS.keep {B:Nat} {pn:Option Addr} {A:Addr} {n cn nb mb:Nat} {o:List Int} {vo:Value} {W W':World} (h:NS B pn A n cn nb mb o vo W) (k:∀ g,g < W.heap.size→(g=nb∨g=mb∨vo.ownBlock=some g)→W'.heap[g]? = W.heap[g]?):NS B pn A n cn nb mb o vo W':=by
 obtain ⟨h1,h2,h3,h4⟩:=h.lt
 exact ⟨h.pa,(k nb h1 (.inl rfl)).trans h.bk,h.mp.keep (k mb h2 (.inr (.inl rfl))),own_keep h.oo (fun g e=>k g (h4 g e).2.2.2 (.inr (.inr e))),h.nl⟩
theorem NS.kb {B:Nat} {pn:Option Addr} {A:Addr} {n cn nb mb:Nat} {o:List Int} {vo:Value} {W W':World} (h:NS B pn A n cn nb mb o vo W) (k:Kb 0 W W'):NS B pn A n cn nb mb o vo W':=h.keep (fun g hg _=>k.block g (Nat.zero_le _) hg)
theorem infoP:(Try.prog.info? 140).map (fun i=>(i.zero,i.size,i.bytes))=some (some (.pointer none),1,8):=by kernel_rfl
theorem im_met {v : Gv} {B : Nat} {pn : Option Addr} {A : Addr} {n cn nb mb : Nat} {o : List Int} {vo : Value} (w : World) (h : NS B pn A n cn nb mb o vo w) (hB : B ≤ w.heap.size) (hv : v.k = 4 → 0 ≤ v.r ∧ v.r < (n : Int)) (hn : n ≤ 1048576) :
  Calls Try.prog 96 #[.pointer (some ⟨nb,0,none⟩),gvv v] w fun e w'=>∃ vo',e = .returned (gvv (rnm (ext o v) v))∧NS B pn A n cn nb mb (ext o v) vo' w'∧Fo3 nb mb vo.ownBlock w w':=by
 obtain ⟨ad,cap,rfl⟩:=own_shape h.oo
 obtain ⟨l1,l2,l3,l4⟩:=h.lt
 have hnI:(n:Int)≤1048576:=by omega
 have hl:o.length≤1048576:=Nat.le_trans (nl_len n o h.nl) hn
 obtain ⟨w2,hw2⟩:∃ w2,w2=(w.alloc (.cells #[.int .i64 v.k,.int .i64 v.m,.string v.x,.int .i64 v.r] 41)).alloc (.cells #[.int .i64 0,.int .i64 0,.string ⟨#[]⟩,.int .i64 0] 41):=⟨_,rfl⟩
 have k2:Kb 0 w w2:=by rw [hw2];exact kb_alloc2 _ _ _ _
 have z2:w2.heap.size=w.heap.size+2:=by rw [hw2];simp
 have b0:w2.heap[w.heap.size]? = some (.cells #[.int .i64 v.k,.int .i64 v.m,.string v.x,.int .i64 v.r] 41 (0,0)):=by
  rw [hw2,(kb_alloc 0 _ _).block _ (Nat.zero_le _) (by rw [World.size_alloc];omega)]
  exact alloc_new _ _ _
 have b1:w2.heap[w.heap.size+1]? = some (.cells #[.int .i64 0,.int .i64 0,.string ⟨#[]⟩,.int .i64 0] 41 (0,0)):=by
  have e:(w.alloc (.cells #[.int .i64 v.k,.int .i64 v.m,.string v.x,.int .i64 v.r] 41)).heap.size=w.heap.size+1:=World.size_alloc _ _
  rw [hw2,← e]
  exact alloc_new _ _ _
 have HW2:Hid (w2=(w.alloc (.cells #[.int .i64 v.k,.int .i64 v.m,.string v.x,.int .i64 v.r] 41)).alloc (.cells #[.int .i64 0,.int .i64 0,.string ⟨#[]⟩,.int .i64 0] 41)):=hw2
 unfold gvv
 by_cases h4:v.k=4
 case neg =>
  have e1:ext o v=o:=by unfold ext;rw [if_neg h4]
  have e2:rnm o v=v:=by unfold rnm;rw [if_neg h4]
  rw [e1,e2]
  have g4:(v.k != 4)=true:=by simp [h4]
  have g4b:(v.k == 4)=false:=bne h4
  obtain ⟨e0,e1,e2,e3⟩:=s4_cells (B:=w.heap.size+1) (cell_of b1 rfl) (cell_of b1 rfl) (cell_of b1 rfl) (cell_of b1 rfl) v.k v.m v.x v.r
  have HP:Hid (NS B pn A n cn nb mb o (.slice ad o.length cap) (s4 w2 (w.heap.size+1) v.k v.m v.x v.r)∧Fo3 nb mb (Value.slice ad o.length cap).ownBlock w (s4 w2 (w.heap.size+1) v.k v.m v.x v.r)):=(by
   have e:∀ k,k < w.heap.size→(s4 w2 (w.heap.size+1) v.k v.m v.x v.r).heap[k]? = w.heap[k]?:=fun k hk=>(s4_far _ _ _ _ _ (by omega)).trans (k2.block k (Nat.zero_le _) hk)
   exact ⟨h.keep (fun g hg _=>e g hg),⟨k2.os,k2.output,by rw [s4_size];omega,fun k hk _ _ _=>e k hk⟩⟩:_∧_)
  have d0:w2.cell? ⟨w.heap.size,0,none⟩=some (.int .i64 v.k):=cell_of b0 rfl
  have d1:w2.cell? ⟨w.heap.size,1,none⟩=some (.int .i64 v.m):=cell_of b0 rfl
  have d2:w2.cell? ⟨w.heap.size,2,none⟩=some (.string v.x):=cell_of b0 rfl
  have d3:w2.cell? ⟨w.heap.size,3,none⟩=some (.int .i64 v.r):=cell_of b0 rfl
  have q0:w2.cell? ⟨w.heap.size+1,0,none⟩=some (.int .i64 0):=cell_of b1 rfl
  have q1:w2.cell? ⟨w.heap.size+1,1,none⟩=some (.int .i64 0):=cell_of b1 rfl
  have q2:w2.cell? ⟨w.heap.size+1,2,none⟩=some (.string ⟨#[]⟩):=cell_of b1 rfl
  have q3:w2.cell? ⟨w.heap.size+1,3,none⟩=some (.int .i64 0):=cell_of b1 rfl
  have qz:∀ j,w2.frozen? ⟨w.heap.size+1,j,none⟩=false:=fun j=>frozen_of b1
  obtain ⟨WF,hWF⟩:∃ WF,WF=s4 w2 (w.heap.size+1) v.k v.m v.x v.r:=⟨_,rfl⟩
  rw [← hWF] at e0 e1 e2 e3 HP
  unfold s4 at hWF
  have HWF:Hid (WF=(((w2.setCell ⟨w.heap.size+1,0,none⟩ (.int .i64 v.k)).setCell ⟨w.heap.size+1,1,none⟩ (.int .i64 v.m)).setCell ⟨w.heap.size+1,2,none⟩ (.string v.x)).setCell ⟨w.heap.size+1,3,none⟩ (.int .i64 v.r)):=hWF
  clear h hv hl hB l1 l2 l3 l4 k2 z2 b0 b1 hw2 h4 hWF
  go_enter Try.func96,Try.ntmps96
  go_upto_region 1 with fail
  rw [← (show w2 = _ from HW2)]
  clear HW2
  go_wp2_with fail
  rw [← (show WF = _ from HWF)]
  clear HWF
  refine bodyPost_ret (by simp [results,Try.results96,go_sem,e0,e1,e2,e3];rfl) rfl ?_
  exact ⟨_,rfl,HP⟩
 obtain ⟨hr0,hr1⟩:=hv h4
 obtain ⟨r,hr⟩:∃ r:Nat,v.r=(r:Int):=⟨v.r.toNat,by omega⟩
 have hrn:r < n:=by omega
 have hrI:(r:Int) < (n:Int):=by omega
 obtain rfl:=h.pa (by omega)
 have hh2:=h.kb k2
 have y0:w2.cell? ⟨w.heap.size,0,none⟩=some (.int .i64 4):=by rw [← h4];exact cell_of b0 rfl
 have y1:w2.cell? ⟨w.heap.size,1,none⟩=some (.int .i64 v.m):=cell_of b0 rfl
 have y2:w2.cell? ⟨w.heap.size,2,none⟩=some (.string v.x):=cell_of b0 rfl
 have y3:w2.cell? ⟨w.heap.size,3,none⟩=some (.int .i64 (r:Int)):=by rw [← hr];exact cell_of b0 rfl
 have yz:∀ j,w2.frozen? ⟨w.heap.size,j,none⟩=false:=fun j=>frozen_of b0
 have n0:w2.cell? ⟨nb,0,none⟩=some (.slice (some A) n cn):=cell_of hh2.bk rfl
 have n1:w2.cell? ⟨nb,1,none⟩=some (.map (some mb)):=cell_of hh2.bk rfl
 have n2:w2.cell? ⟨nb,2,none⟩=some (.slice ad o.length cap):=cell_of hh2.bk rfl
 have nz:∀ j,w2.frozen? ⟨nb,j,none⟩=false:=fun j=>frozen_of hh2.bk
 have hL:∀ x ∈ o,0≤x:=fun x hx=>(h.nl.rg x hx).1
 rw [h4,hr] at HW2
 have erm:∀ o',rnm o' v=⟨4,v.m,v.x,(o'.idxOf (r:Int):Int)⟩:=fun o'=>by unfold rnm;rw [if_pos h4,h4,hr]
 rw [erm]
 by_cases hm:(r:Int) ∈ o
 ·have e1:ext o v=o:=by unfold ext;rw [if_pos h4,hr,if_pos hm]
  rw [e1,h4,hr]
  have hlk:∀ d,(Instr.lookup 134 (.map (some mb)) (.pointer (some (A.add (r*2)))) true).run Try.prog (w2.drewN d) = .ok (.tuple #[.int .i64 (o.idxOf (r:Int):Int),.bool true]) (w2.drewN d):=fun d=>by
   have:=run_lookPk (A:=A) (r:=(r:Int)) (w:=w2.drewN d) (hh2.mp.keep rfl) (by omega) hL
   rw [if_pos hm] at this
   exact this
  obtain ⟨ix,hix⟩:∃ ix,ix=o.idxOf (r:Int):=⟨_,rfl⟩
  rw [← hix] at hlk
  rw [← hix]
  have HB0:Hid (w2.heap[w.heap.size]? = some (.cells #[.int .i64 4,.int .i64 v.m,.string v.x,.int .i64 (r:Int)] 41 (0,0))):=(by rw [b0,h4,hr]:w2.heap[w.heap.size]? = _)
  have HPD:Hid (∀ d,NS B (some A) A n cn nb mb o (.slice ad o.length cap) (w2.drewN d)∧Fo3 nb mb (Value.slice ad o.length cap).ownBlock w (w2.drewN d)∧w.heap.size+2≤(w2.drewN d).heap.size):=(fun d=>⟨hh2.keep (fun g _ _=>rfl),⟨k2.os,k2.output,k2.size,fun k hk _ _ _=>k2.block k (Nat.zero_le _) hk⟩,by show w.heap.size+2≤w2.heap.size;omega⟩:∀ d,_)
  clear h hv hl hB k2 z2 b0 hw2 h4 hh2 hix hm hr0 hr1 hr erm e1 hL
  go_enter Try.func96,Try.ntmps96
  go_upto_region 3 with fail
  rw [← (show w2 = _ from HW2)]
  clear HW2
  go_quiet (fail)
  go_upto_region 9 with fail
  obtain ⟨w5,hw5⟩:∃ w5,w5=w2.drewN nq:=⟨_,rfl⟩
  rw [← hw5]
  have c0:w5.heap[w.heap.size]? = some (.cells #[.int .i64 4,.int .i64 v.m,.string v.x,.int .i64 (r:Int)] 41 (0,0)):=by rw [hw5];exact (show w2.heap[w.heap.size]? = _ from HB0)
  have c1:w5.heap[w.heap.size+1]? = some (.cells #[.int .i64 0,.int .i64 0,.string ⟨#[]⟩,.int .i64 0] 41 (0,0)):=by rw [hw5];exact b1
  have HEND:Hid (NS B (some A) A n cn nb mb o (.slice ad o.length cap) w5∧Fo3 nb mb (Value.slice ad o.length cap).ownBlock w w5∧w.heap.size+2≤w5.heap.size):=(by rw [hw5];exact (show ∀ d,_ from HPD) nq:_∧_)
  clear hw5 HPD HB0 b1 y0 y1 y2 y3 yz n0 n1 n2 nz hlk
  have y0:w5.cell? ⟨w.heap.size,0,none⟩=some (.int .i64 4):=cell_of c0 rfl
  have y1:w5.cell? ⟨w.heap.size,1,none⟩=some (.int .i64 v.m):=cell_of c0 rfl
  have y2:w5.cell? ⟨w.heap.size,2,none⟩=some (.string v.x):=cell_of c0 rfl
  have y3:w5.cell? ⟨w.heap.size,3,none⟩=some (.int .i64 (r:Int)):=cell_of c0 rfl
  have yz:∀ j,w5.frozen? ⟨w.heap.size,j,none⟩=false:=fun j=>frozen_of c0
  obtain ⟨Y2,hY2⟩:∃ Y2,Y2=w5.setCell ⟨w.heap.size,3,none⟩ (.int .i64 (ix:Int)):=⟨_,rfl⟩
  have f0:Y2.cell? ⟨w.heap.size,0,none⟩=some (.int .i64 4):=by rw [hY2,set_ne _ _ _ _ _ (by decide)];exact y0
  have f1:Y2.cell? ⟨w.heap.size,1,none⟩=some (.int .i64 v.m):=by rw [hY2,set_ne _ _ _ _ _ (by decide)];exact y1
  have f2:Y2.cell? ⟨w.heap.size,2,none⟩=some (.string v.x):=by rw [hY2,set_ne _ _ _ _ _ (by decide)];exact y2
  have f3:Y2.cell? ⟨w.heap.size,3,none⟩=some (.int .i64 (ix:Int)):=by rw [hY2];exact set_eq _ _ _ _ _ y3
  have hbl:Y2.heap[w.heap.size+1]? = w5.heap[w.heap.size+1]?:=by rw [hY2];exact Below.heap_setCell _ _ _ _ (show w.heap.size+1 ≠ w.heap.size by omega)
  have HKY:Hid (∀ k,k ≠ w.heap.size→Y2.heap[k]? = w5.heap[k]?):=(fun k hk=>by rw [hY2];exact Below.heap_setCell _ _ _ _ hk:∀ k,_)
  have HSY:Hid (Y2.os=w5.os∧Y2.output=w5.output∧Y2.heap.size=w5.heap.size):=(⟨by rw [hY2];rfl,by rw [hY2];rfl,by rw [hY2];simp⟩:_∧_)
  have q0:Y2.cell? ⟨w.heap.size+1,0,none⟩=some (.int .i64 0):=(World.cell?_of_block hbl).trans (cell_of c1 rfl)
  have q1:Y2.cell? ⟨w.heap.size+1,1,none⟩=some (.int .i64 0):=(World.cell?_of_block hbl).trans (cell_of c1 rfl)
  have q2:Y2.cell? ⟨w.heap.size+1,2,none⟩=some (.string ⟨#[]⟩):=(World.cell?_of_block hbl).trans (cell_of c1 rfl)
  have q3:Y2.cell? ⟨w.heap.size+1,3,none⟩=some (.int .i64 0):=(World.cell?_of_block hbl).trans (cell_of c1 rfl)
  have qz:∀ j,Y2.frozen? ⟨w.heap.size+1,j,none⟩=false:=fun j=>(World.frozen?_of_block hbl).trans (frozen_of c1)
  have HY2:Hid (Y2=w5.setCell ⟨w.heap.size,3,none⟩ (.int .i64 (ix:Int))):=hY2
  have HC:Hid (w5.heap[w.heap.size]? = some (.cells #[.int .i64 4,.int .i64 v.m,.string v.x,.int .i64 (r:Int)] 41 (0,0))∧w5.heap[w.heap.size+1]? = some (.cells #[.int .i64 0,.int .i64 0,.string ⟨#[]⟩,.int .i64 0] 41 (0,0))):=(⟨c0,c1⟩:_∧_)
  clear hY2 hbl c0 c1
  go_upto_region 10 with fail
  rw [← (show Y2 = _ from HY2)]
  clear HY2 y0 y1 y2 y3 yz
  go_wp2_with fail
  obtain ⟨e0,e1,e2,e3⟩:=s4_cells (B:=w.heap.size+1) q0 q1 q2 q3 (4:Int) v.m v.x (ix:Int)
  have HF:Hid ((∀ k,k ≠ w.heap.size→k ≠ w.heap.size+1→(s4 Y2 (w.heap.size+1) 4 v.m v.x (ix:Int)).heap[k]? = w5.heap[k]?)∧(s4 Y2 (w.heap.size+1) 4 v.m v.x (ix:Int)).os=w5.os∧(s4 Y2 (w.heap.size+1) 4 v.m v.x (ix:Int)).output=w5.output∧(s4 Y2 (w.heap.size+1) 4 v.m v.x (ix:Int)).heap.size=w5.heap.size):=(⟨fun k hk hk2=>(s4_far _ _ _ _ _ hk2).trans ((show ∀ k,k ≠ w.heap.size→_ from HKY) k hk),(show _∧_∧_ from HSY).1,(show _∧_∧_ from HSY).2.1,(s4_size _ _ _ _ _ _).trans (show _∧_∧_ from HSY).2.2⟩:_∧_)
  obtain ⟨WF,hWF⟩:∃ WF,WF=s4 Y2 (w.heap.size+1) 4 v.m v.x (ix:Int):=⟨_,rfl⟩
  rw [← hWF] at e0 e1 e2 e3 HF
  have hWF':=hWF
  unfold s4 at hWF'
  rw [← hWF']
  clear hWF hWF'
  refine bodyPost_ret (by simp [results,Try.results96,go_sem,e0,e1,e2,e3];rfl) rfl ?_
  obtain ⟨z1,z2,z3,z4⟩:=(show (∀ k,k ≠ w.heap.size→k ≠ w.heap.size+1→WF.heap[k]? = _)∧_∧_∧_ from HF)
  obtain ⟨p1,p2,p4⟩:=(show NS B (some A) A n cn nb mb o (.slice ad o.length cap) w5∧Fo3 nb mb (Value.slice ad o.length cap).ownBlock w w5∧w.heap.size+2≤w5.heap.size from HEND)
  obtain ⟨d0,d1⟩:=(show w5.heap[w.heap.size]? = _∧w5.heap[w.heap.size+1]? = _ from HC)
  have hty:∀ g,g < w5.heap.size→(g=nb∨g=mb∨(Value.slice ad o.length cap).ownBlock=some g)→WF.heap[g]? = w5.heap[g]?:=fun g hg e=>by
   have hne:g ≠ w.heap.size∧g ≠ w.heap.size+1:=by
    rcases e with rfl | rfl | e
    ·omega
    ·omega
    ·exact ⟨own_ty p1.oo d0 (by decide) e,own_ty p1.oo d1 (by decide) e⟩
   exact z1 g hne.1 hne.2
  exact ⟨_,rfl,p1.keep hty,⟨z2.trans p2.os,z3.trans p2.output,by have:=p2.size;omega,fun k hk h1 h2 h3=>(z1 k (by omega) (by omega)).trans (p2.block k hk h1 h2 h3)⟩⟩
 have e1:ext o v=o ++ [(r:Int)]:=by unfold ext;rw [if_pos h4,hr,if_neg hm]
 rw [e1,h4,hr]
 have eix:(o ++ [(r:Int)]).idxOf (r:Int)=o.length:=by rw [List.idxOf_append,if_neg hm];simp
 rw [eix]
 have hlk:∀ d,(Instr.lookup 134 (.map (some mb)) (.pointer (some (A.add (r*2)))) true).run Try.prog (w2.drewN d) = .ok (.tuple #[.int .i64 0,.bool false]) (w2.drewN d):=fun d=>by
  have:=run_lookPk (A:=A) (r:=(r:Int)) (w:=w2.drewN d) (hh2.mp.keep rfl) (by omega) hL
  rw [if_neg hm] at this
  exact this
 obtain ⟨i0,hi0,hz0,hz1,hz2⟩:=info_parts infoP
 have HI0:Hid (Try.prog.info? 140=some i0):=hi0
 obtain ⟨L,hLL⟩:∃ L,L=o.length:=⟨_,rfl⟩
 obtain ⟨LV,hLV⟩:∃ LV,LV=o.map (pk A):=⟨_,rfl⟩
 have HUP:Hid (∀ d,∃ ob,(Instr.mapUpdate 134 (.map (some mb)) (.pointer (some (A.add (r*2)))) (.int .i64 (L:Int))).run Try.prog (w2.drewN d) = .ok () (setB (w2.drewN d) mb ob)∧Mn A mb (o ++ [(r:Int)]) (setB (w2.drewN d) mb ob)):=(fun d=>by
  rw [hLL]
  exact run_updPk (A:=A) (r:=(r:Int)) (w:=w2.drewN d) (hh2.mp.keep rfl) (by omega) hL hm:∀ d,_)
 have HALL:Hid (∀ d ob,Mn A mb (o ++ [(r:Int)]) (setB (w2.drewN d) mb ob)→∃ W3,W3=setB (w2.drewN d) mb ob∧W3.cell? ⟨nb,2,none⟩=some (.slice ad L cap)∧W3.ownsRow B 140 1 (.slice ad L cap) L LV∧B≤W3.heap.size∧∀ (ob:Obj) (v':Value) (w4:World),w4.ownsRow B 140 1 v' (L+1) (LV ++ [.pointer (some (A.add (r*2)))])→(W3.alloc ob).grownBy w4 (Value.slice ad L cap).ownBlock→(w4.cell? ⟨nb,2,none⟩=some (.slice ad L cap)∧∀ j,w4.frozen? ⟨nb,j,none⟩=false)∧NS B (some A) A n cn nb mb (o ++ [(r:Int)]) v' (w4.setCell ⟨nb,2,none⟩ v')∧Fo3 nb mb (Value.slice ad L cap).ownBlock w (w4.setCell ⟨nb,2,none⟩ v')∧w.heap.size+2≤(w4.setCell ⟨nb,2,none⟩ v').heap.size∧(w4.setCell ⟨nb,2,none⟩ v').heap[w.heap.size]? = some (.cells #[.int .i64 4,.int .i64 v.m,.string v.x,.int .i64 (r:Int)] 41 (0,0))∧(w4.setCell ⟨nb,2,none⟩ v').heap[w.heap.size+1]? = some (.cells #[.int .i64 0,.int .i64 0,.string ⟨#[]⟩,.int .i64 0] 41 (0,0))):=(fun d ob hmn=>by
  obtain ⟨W3,hW3⟩:∃ W3,W3=setB (w2.drewN d) mb ob:=⟨_,rfl⟩
  have bk3:∀ g,g ≠ mb→W3.heap[g]? = w2.heap[g]?:=fun g hg=>by rw [hW3];exact setB_ne _ _ _ _ hg
  have z3:W3.heap.size=w2.heap.size:=by rw [hW3,setB_size];rfl
  have nb3:=(bk3 nb l3).trans hh2.bk
  have oo3:W3.ownsRow B 140 1 (.slice ad L cap) L LV:=by
   rw [hLL,hLV]
   exact own_keep hh2.oo (fun g e=>bk3 g (l4 g e).2.1)
  rw [← hW3] at hmn
  refine ⟨W3,hW3,by rw [hLL];exact cell_of nb3 rfl,oo3,by omega,fun ob' v' w4 hown hgr=>?_⟩
  have hs:=hgr.size
  rw [World.size_alloc] at hs
  have l4':∀ g,(Value.slice ad L cap).ownBlock=some g→g ≠ nb∧g ≠ mb∧B≤g∧g < w.heap.size:=by rw [hLL];exact l4
  have kk:∀ k,k < W3.heap.size→some k ≠ (Value.slice ad L cap).ownBlock→w4.heap[k]? = W3.heap[k]?:=fun k hk hne=>(hgr.block k (by rw [World.size_alloc];omega) hne).trans ((kb_alloc 0 W3 ob').block k (Nat.zero_le _) hk)
  have nb4:w4.heap[nb]? = some (.cells #[.slice (some A) n cn,.map (some mb),.slice ad L cap] 137 (0,0)):=by
   rw [kk nb (by omega) (fun e=>(l4' nb e.symm).1 rfl),nb3,hLL]
  have bs:∀ g,g ≠ nb→(w4.setCell ⟨nb,2,none⟩ v').heap[g]? = w4.heap[g]?:=fun g hg=>Below.heap_setCell _ _ _ _ hg
  have hzz:(w4.setCell ⟨nb,2,none⟩ v').heap.size=w4.heap.size:=World.size_setCell _ _ _
  have hX:∀ k,w.heap.size≤k→some k ≠ (Value.slice ad L cap).ownBlock:=fun k hk e=>by have:=(l4' k e.symm).2.2.2;omega
  have os3:W3.os=w.os:=by rw [hW3];exact k2.os
  have ou3:W3.output=w.output:=by rw [hW3];exact k2.output
  refine ⟨⟨cell_of nb4 rfl,fun j=>frozen_of nb4⟩,⟨fun _=>rfl,?_,?_,?_,?_⟩,⟨?_,?_,?_,fun k hk h1 h2 h3=>?_⟩,by omega,?_,?_⟩
  ·rw [set_known v' nb4];rfl
  ·exact hmn.keep ((bs mb (fun e=>l3 e.symm)).trans (kk mb (by omega) (fun e=>(l4' mb e.symm).2.1 rfl)))
  ·have e2:(o ++ [(r:Int)]).length=L+1:=by rw [List.length_append,hLL];rfl
   have e3:(o ++ [(r:Int)]).map (pk A)=LV ++ [.pointer (some (A.add (r*2)))]:=by rw [List.map_append,hLV];rfl
   rw [e2,e3]
   exact own_keep hown (fun g e=>bs g (own_ty hown nb4 (by decide) e))
  ·have:=nl_ext hh2.nl hv
   rwa [e1] at this
  ·exact (hgr.os.trans (kb_alloc 0 W3 ob').os).trans os3
  ·exact (hgr.output.trans (kb_alloc 0 W3 ob').output).trans ou3
  ·omega
  ·exact ((bs k h1).trans (kk k (by omega) h3)).trans ((bk3 k h2).trans (k2.block k (Nat.zero_le _) hk))
  ·rw [bs _ (by omega),kk _ (by omega) (hX _ (Nat.le_refl _)),bk3 _ (by omega),b0,h4,hr]
  ·rw [bs _ (by omega),kk _ (by omega) (hX _ (by omega)),bk3 _ (by omega)]
   exact b1:∀ d ob,_)
 rw [← hLL] at n2 hl ⊢
 have hLI:(L:Int)≤1048576:=by omega
 have h1c:∀ u ∈ ([.pointer (some (A.add (r*2)))]:List Value),u.oneCell'=true:=by intro u hu;simp at hu;subst hu;rfl
 clear h hv k2 z2 b0 b1 hw2 h4 hh2 hm hr0 hr1 hr erm e1 eix hL hLL hLV hi0 l3 l4
 go_enter Try.func96,Try.ntmps96
 go_upto_region 3 with fail
 rw [← (show w2 = _ from HW2)]
 clear HW2
 go_quiet (fail)
 obtain ⟨ob,hup,hmn⟩:=(show ∀ d,_ from HUP) nq
 obtain ⟨W3,hW3,n3,oo3,hbs,H3⟩:=(show ∀ d ob,Mn A mb (o ++ [(r:Int)]) (setB (w2.drewN d) mb ob)→_ from HALL) nq ob hmn
 have HW3:Hid (W3=setB (w2.drewN nq) mb ob):=hW3
 have HSTP:Hid (∀ (ob:Obj) (v':Value) (w4:World),_):=H3
 clear hmn HUP HALL hW3 H3
 have howna:∀ a:Obj,(W3.alloc a).ownsRow B 140 1 (.slice ad L cap) L LV:=fun a=>oo3.alloc a
 have hqc:∀ (j:Nat) (u:Value),([.pointer (some (A.add (r*2)))]:List Value)[j]? = some u→(W3.alloc (.cells #[.pointer (some (A.add (r*2)))] 140)).cell? ((⟨W3.heap.size,0,none⟩:Addr).add j)=some u:=qr_cells W3 #[.pointer (some (A.add (r*2)))] 140 [.pointer (some (A.add (r*2)))] rfl
 clear oo3
 go_upto_region 8 with fail
 rw [← (show W3 = _ from HW3)]
 clear HW3 hup hlk y0 y1 y2 y3 yz n0 n1 n2 nz
 go_upto_region 9 with (at_builtin;refine wpList_append_own _ rfl (.tmp 45) (.tmp 47) 135 rfl B 140 i0 (.pointer none) 1 8 Try.underlying135 HI0 hz0 hz1 hz2 rfl (by decide) _ _ _ rfl (howna _) ⟨W3.heap.size,0,none⟩ 1 1 [.pointer (some (A.add (r*2)))] rfl rfl hqc h1c (by unfold maxLen;omega) (by omega) (by simp;omega) ?_;intro v' w4 hown1 hgrow1 _;obtain ⟨av,cv,rfl⟩:=own_shape hown1;obtain ⟨⟨x1,x2⟩,P1,P2,P4,c0',c1'⟩:=(show ∀ (ob:Obj) (v':Value) (w4:World),_ from HSTP) _ _ _ hown1 hgrow1;replace P1:Hid _:=And.intro P1 (And.intro P2 (And.intro P4 (And.intro c0' c1')));clear HSTP hown1 hgrow1 howna hqc h1c n3 P2 P4 c0' c1')
 obtain ⟨w5,hw5⟩:∃ w5,w5=w4.setCell ⟨nb,2,none⟩ (.slice av (L+1) cv):=⟨_,rfl⟩
 rw [← hw5] at P1 ⊢
 obtain ⟨p1,p2,p4,c0,c1⟩:=(show NS B (some A) A n cn nb mb (o ++ [(r:Int)]) (.slice av (L+1) cv) w5∧Fo3 nb mb (Value.slice ad L cap).ownBlock w w5∧w.heap.size+2≤w5.heap.size∧w5.heap[w.heap.size]? = _∧w5.heap[w.heap.size+1]? = _ from P1)
 have HEND:Hid (NS B (some A) A n cn nb mb (o ++ [(r:Int)]) (.slice av (L+1) cv) w5∧Fo3 nb mb (Value.slice ad L cap).ownBlock w w5∧w.heap.size+2≤w5.heap.size):=(⟨p1,p2,p4⟩:_∧_)
 clear hw5 P1 p1 p2 p4 x1 x2
 have y0:w5.cell? ⟨w.heap.size,0,none⟩=some (.int .i64 4):=cell_of c0 rfl
 have y1:w5.cell? ⟨w.heap.size,1,none⟩=some (.int .i64 v.m):=cell_of c0 rfl
 have y2:w5.cell? ⟨w.heap.size,2,none⟩=some (.string v.x):=cell_of c0 rfl
 have y3:w5.cell? ⟨w.heap.size,3,none⟩=some (.int .i64 (r:Int)):=cell_of c0 rfl
 have yz:∀ j,w5.frozen? ⟨w.heap.size,j,none⟩=false:=fun j=>frozen_of c0
 obtain ⟨Y2,hY2⟩:∃ Y2,Y2=w5.setCell ⟨w.heap.size,3,none⟩ (.int .i64 (L:Int)):=⟨_,rfl⟩
 have f0:Y2.cell? ⟨w.heap.size,0,none⟩=some (.int .i64 4):=by rw [hY2,set_ne _ _ _ _ _ (by decide)];exact y0
 have f1:Y2.cell? ⟨w.heap.size,1,none⟩=some (.int .i64 v.m):=by rw [hY2,set_ne _ _ _ _ _ (by decide)];exact y1
 have f2:Y2.cell? ⟨w.heap.size,2,none⟩=some (.string v.x):=by rw [hY2,set_ne _ _ _ _ _ (by decide)];exact y2
 have f3:Y2.cell? ⟨w.heap.size,3,none⟩=some (.int .i64 (L:Int)):=by rw [hY2];exact set_eq _ _ _ _ _ y3
 have hbl:Y2.heap[w.heap.size+1]? = w5.heap[w.heap.size+1]?:=by rw [hY2];exact Below.heap_setCell _ _ _ _ (show w.heap.size+1 ≠ w.heap.size by omega)
 have HKY:Hid (∀ k,k ≠ w.heap.size→Y2.heap[k]? = w5.heap[k]?):=(fun k hk=>by rw [hY2];exact Below.heap_setCell _ _ _ _ hk:∀ k,_)
 have HSY:Hid (Y2.os=w5.os∧Y2.output=w5.output∧Y2.heap.size=w5.heap.size):=(⟨by rw [hY2];rfl,by rw [hY2];rfl,by rw [hY2];simp⟩:_∧_)
 have q0:Y2.cell? ⟨w.heap.size+1,0,none⟩=some (.int .i64 0):=(World.cell?_of_block hbl).trans (cell_of c1 rfl)
 have q1:Y2.cell? ⟨w.heap.size+1,1,none⟩=some (.int .i64 0):=(World.cell?_of_block hbl).trans (cell_of c1 rfl)
 have q2:Y2.cell? ⟨w.heap.size+1,2,none⟩=some (.string ⟨#[]⟩):=(World.cell?_of_block hbl).trans (cell_of c1 rfl)
 have q3:Y2.cell? ⟨w.heap.size+1,3,none⟩=some (.int .i64 0):=(World.cell?_of_block hbl).trans (cell_of c1 rfl)
 have qz:∀ j,Y2.frozen? ⟨w.heap.size+1,j,none⟩=false:=fun j=>(World.frozen?_of_block hbl).trans (frozen_of c1)
 have HY2:Hid (Y2=w5.setCell ⟨w.heap.size,3,none⟩ (.int .i64 (L:Int))):=hY2
 have HC:Hid (w5.heap[w.heap.size]? = some (.cells #[.int .i64 4,.int .i64 v.m,.string v.x,.int .i64 (r:Int)] 41 (0,0))∧w5.heap[w.heap.size+1]? = some (.cells #[.int .i64 0,.int .i64 0,.string ⟨#[]⟩,.int .i64 0] 41 (0,0))):=(⟨c0,c1⟩:_∧_)
 clear hY2 hbl c0 c1
 go_upto_region 10 with fail
 rw [← (show Y2 = _ from HY2)]
 clear HY2 y0 y1 y2 y3 yz
 go_wp2_with fail
 obtain ⟨e0,e1,e2,e3⟩:=s4_cells (B:=w.heap.size+1) q0 q1 q2 q3 (4:Int) v.m v.x (L:Int)
 have HF:Hid ((∀ k,k ≠ w.heap.size→k ≠ w.heap.size+1→(s4 Y2 (w.heap.size+1) 4 v.m v.x (L:Int)).heap[k]? = w5.heap[k]?)∧(s4 Y2 (w.heap.size+1) 4 v.m v.x (L:Int)).os=w5.os∧(s4 Y2 (w.heap.size+1) 4 v.m v.x (L:Int)).output=w5.output∧(s4 Y2 (w.heap.size+1) 4 v.m v.x (L:Int)).heap.size=w5.heap.size):=(⟨fun k hk hk2=>(s4_far _ _ _ _ _ hk2).trans ((show ∀ k,k ≠ w.heap.size→_ from HKY) k hk),(show _∧_∧_ from HSY).1,(show _∧_∧_ from HSY).2.1,(s4_size _ _ _ _ _ _).trans (show _∧_∧_ from HSY).2.2⟩:_∧_)
 obtain ⟨WF,hWF⟩:∃ WF,WF=s4 Y2 (w.heap.size+1) 4 v.m v.x (L:Int):=⟨_,rfl⟩
 rw [← hWF] at e0 e1 e2 e3 HF
 have hWF':=hWF
 unfold s4 at hWF'
 rw [← hWF']
 clear hWF hWF'
 refine bodyPost_ret (by simp [results,Try.results96,go_sem,e0,e1,e2,e3];rfl) rfl ?_
 obtain ⟨z1,z2,z3,z4⟩:=(show (∀ k,k ≠ w.heap.size→k ≠ w.heap.size+1→WF.heap[k]? = _)∧_∧_∧_ from HF)
 obtain ⟨p1,p2,p4⟩:=(show NS B (some A) A n cn nb mb (o ++ [(r:Int)]) (.slice av (L+1) cv) w5∧Fo3 nb mb (Value.slice ad L cap).ownBlock w w5∧w.heap.size+2≤w5.heap.size from HEND)
 obtain ⟨d0,d1⟩:=(show w5.heap[w.heap.size]? = _∧w5.heap[w.heap.size+1]? = _ from HC)
 have hty:∀ g,g < w5.heap.size→(g=nb∨g=mb∨(Value.slice av (L+1) cv).ownBlock=some g)→WF.heap[g]? = w5.heap[g]?:=fun g hg e=>by
  have hne:g ≠ w.heap.size∧g ≠ w.heap.size+1:=by
   rcases e with rfl | rfl | e
   ·omega
   ·omega
   ·exact ⟨own_ty p1.oo d0 (by decide) e,own_ty p1.oo d1 (by decide) e⟩
  exact z1 g hne.1 hne.2
 exact ⟨_,rfl,p1.keep hty,⟨z2.trans p2.os,z3.trans p2.output,by have:=p2.size;omega,fun k hk h1 h2 h3=>(z1 k (by omega) (by omega)).trans (p2.block k hk h1 h2 h3)⟩⟩
structure Fo4 (B nb mb:Nat) (W w':World):Prop where
 os:w'.os=W.os
 output:w'.output=W.output
 size:W.heap.size≤w'.heap.size
 block:∀ k,k < W.heap.size→k ≠ nb→k ≠ mb→(k < B∨∀ c,W.heap[k]? ≠ some (.cells c 140 (0,0)))→w'.heap[k]? = W.heap[k]?
theorem Fo4.refl (B nb mb:Nat) (W:World):Fo4 B nb mb W W:=⟨rfl,rfl,Nat.le_refl _,fun _ _ _ _ _=>rfl⟩
theorem Fo4.trans {B nb mb:Nat} {a b c:World} (h:Fo4 B nb mb a b) (k:Fo4 B nb mb b c):Fo4 B nb mb a c :=
 ⟨k.os.trans h.os,k.output.trans h.output,Nat.le_trans h.size k.size,fun i hi h1 h2 h3=>by
  have e:=h.block i hi h1 h2 h3
  exact (k.block i (Nat.lt_of_lt_of_le hi h.size) h1 h2 (by rw [e];exact h3)).trans e⟩
theorem Fo4.of_kb {B nb mb:Nat} {W w':World} (k:Kb 0 W w'):Fo4 B nb mb W w':=⟨k.os,k.output,k.size,fun i hi _ _ _=>k.block i (Nat.zero_le _) hi⟩
theorem own_pt {W:World} {B:Nat} {v:Value} {n:Nat} {l:List Value} (h:W.ownsRow B 140 1 v n l) {g:Nat} (e:v.ownBlock=some g):∃ c,W.heap[g]? = some (.cells c 140 (0,0)):=by
 rcases h.2 with ⟨q,_⟩ | ⟨g1,c1,u1,q1,_,q3,_⟩
 ·rw [q] at e;cases e
 ·rw [q1] at e
  have a:g1=g:=Option.some.inj e
  subst a
  exact ⟨u1,q3⟩
theorem Fo4.of3 {B:Nat} {pn:Option Addr} {A:Addr} {n cn nb mb:Nat} {o:List Int} {vo:Value} {W w':World} (h:NS B pn A n cn nb mb o vo W) (f:Fo3 nb mb vo.ownBlock W w'):Fo4 B nb mb W w' :=
 ⟨f.os,f.output,f.size,fun k hk h1 h2 h3=>f.block k hk h1 h2 (fun e=>by
  rcases h3 with q | q
  ·have:=(h.lt.2.2.2 k e.symm).2.2.1;omega
  ·obtain ⟨c,hc⟩:=own_pt h.oo e.symm
   exact q c hc)⟩
theorem Fo4.kb {B nb mb:Nat} {w0 W w':World} (f:Fo4 B nb mb W w') (k:Kb 0 w0 W) (h1:w0.heap.size≤nb) (h2:w0.heap.size≤mb) (h3:w0.heap.size≤B):Kb 0 w0 w' :=
 ⟨f.os.trans k.os,f.output.trans k.output,Nat.le_trans k.size f.size,fun g _ hg=>(f.block g (Nat.lt_of_lt_of_le hg k.size) (by omega) (by omega) (.inl (by omega))).trans (k.block g (Nat.zero_le _) hg)⟩
theorem Fo4.cells {B nb mb:Nat} {W w':World} (f:Fo4 B nb mb W w') {g:Nat} {c:Array Value} {t:TypeId} (hg:W.heap[g]? = some (.cells c t (0,0))) (ht:t ≠ 140) (h1:g ≠ nb) (h2:g ≠ mb):w'.heap[g]? = W.heap[g]? :=
 f.block g (Array.getElem?_eq_some_iff.1 hg).1 h1 h2 (.inr (fun c' e=>by
  rw [hg] at e
  injection e with e
  injection e with _ e
  exact ht e))
theorem Fo4.own {B nb mb:Nat} {W w':World} (f:Fo4 B nb mb W w') {B' s n:Nat} {t:TypeId} {v:Value} {l:List Value} (h:W.ownsRow B' t s v n l) (ht:t ≠ 140) (h1:nb < B') (h2:mb < B'):w'.ownsRow B' t s v n l :=
 own_keep h (fun g e=>by
  have hb:=(h.lt g e).1
  rcases h.2 with ⟨q,_⟩ | ⟨g1,c1,u1,q1,_,q3,_⟩
  ·rw [q] at e;cases e
  ·rw [q1] at e
   have a:g1=g:=Option.some.inj e
   subst a
   exact f.cells q3 ht (by omega) (by omega))
structure TS (B:Nat) (pn:Option Addr) (A:Addr) (n cn nb mb:Nat) (o:List Int) (t:Int) (C:Nat→Gv) (W:World) (u j:Nat) (vo vx:Value) (wr:World):Prop where
 ns:NS B pn A n cn nb mb (exts o C j) vo wr
 fo:Fo4 B nb mb W wr
 rs:wr.heap[u]? = some (.cells #[.int .i64 0,.slice none 0 0] 50 (0,0))
 xu:wr.heap[u+1]? = some (.cells #[.int .i64 t,vx] 50 (0,0))
 xr:wr.ownsRow (u+2) 41 4 vx j (vcl (exts o C j) C j)
 sz:u+2≤wr.heap.size
theorem own_vt {W:World} {B:Nat} {v:Value} {n s:Nat} {t:TypeId} {l:List Value} (h:W.ownsRow B t s v n l) {g:Nat} (e:v.ownBlock=some g):∃ c,W.heap[g]? = some (.cells c t (0,0)):=by
 rcases h.2 with ⟨q,_⟩ | ⟨g1,c1,u1,q1,_,q3,_⟩
 ·rw [q] at e;cases e
 ·rw [q1] at e
  have a:g1=g:=Option.some.inj e
  subst a
  exact ⟨u1,q3⟩
theorem TS.push {B:Nat} {pn:Option Addr} {A:Addr} {n cn nb mb:Nat} {o:List Int} {t:Int} {C:Nat→Gv} {W:World} {u j:Nat} {vo vo' vx vx':Value} {wr W5 w6 w8:World} {ob:Obj} (h:TS B pn A n cn nb mb o t C W u j vo vx wr) (k5:Kb 0 wr W5) (hnb:nb < u) (hmb:mb < u) (HWU:W.heap.size≤u) (hns:NS B pn A n cn nb mb (ext (exts o C j) (C j)) vo' w6) (hf:Fo4 B nb mb W5 w6) (hr:w8.ownsRow (u+2) 41 4 vx' (j+1) (vcl (exts o C j) C j ++ gcl (rnm (ext (exts o C j) (C j)) (C j)))) (hg:(w6.alloc ob).grownBy w8 vx.ownBlock):(w8.cell? ⟨u+1,1,none⟩=some vx∧∀ i,w8.frozen? ⟨u+1,i,none⟩=false)∧TS B pn A n cn nb mb o t C W u (j+1) vo' vx' (w8.setCell ⟨u+1,1,none⟩ vx'):=by
 have f6:Fo4 B nb mb wr w6:=(Fo4.of_kb k5).trans hf
 have hs:=hg.size
 rw [World.size_alloc] at hs
 have hsz:=h.sz
 have hz6:=f6.size
 have x6:w6.ownsRow (u+2) 41 4 vx j (vcl (exts o C j) C j):=f6.own h.xr (by decide) (by omega) (by omega)
 have u6:=(f6.cells h.xu (by decide) (by omega) (by omega)).trans h.xu
 have r6:=(f6.cells h.rs (by decide) (by omega) (by omega)).trans h.rs
 have b8:∀ g,g < w6.heap.size→some g ≠ vx.ownBlock→w8.heap[g]? = w6.heap[g]?:=fun g hg' hne=>(hg.block g (by rw [World.size_alloc];omega) hne).trans ((kb_alloc 0 w6 ob).block g (Nat.zero_le _) hg')
 have u8:=(b8 (u+1) (by omega) (fun e=>own_ty x6 u6 (by decide) e.symm rfl)).trans u6
 have bs:∀ g,g ≠ u+1→(w8.setCell ⟨u+1,1,none⟩ vx').heap[g]? = w8.heap[g]?:=fun g hg'=>Below.heap_setCell _ _ _ _ hg'
 have hzz:(w8.setCell ⟨u+1,1,none⟩ vx').heap.size=w8.heap.size:=World.size_setCell _ _ _
 obtain ⟨l1,l2,l3,l4⟩:=hns.lt
 obtain ⟨tl,et⟩:=ext_pre (exts o C j) (C j)
 refine ⟨⟨cell_of u8 rfl,fun i=>frozen_of u8⟩,⟨?_,?_,?_,?_,?_,by omega⟩⟩
 ·refine NS.keep hns (fun g hg' e=>?_)
  have hne:g ≠ u+1∧some g ≠ vx.ownBlock:=by
   rcases e with rfl | rfl | e
   ·exact ⟨by omega,fun e=>by have:=(x6.lt _ e.symm).1;omega⟩
   ·exact ⟨by omega,fun e=>by have:=(x6.lt _ e.symm).1;omega⟩
   ·exact ⟨own_ty hns.oo u6 (by decide) e,own_ne hns.oo x6 (by decide) e⟩
  exact (bs g hne.1).trans (b8 g hg' hne.2)
 ·have f:=h.fo.trans f6
  have hwz:=h.fo.size
  refine ⟨hg.os.trans f.os,hg.output.trans f.output,by omega,fun k hk h1 h2 h3=>?_⟩
  have hk6:=f.block k hk h1 h2 h3
  by_cases eu:k=u+1
  ·exact absurd eu (by have:=HWU;omega)
  ·rw [bs k eu,b8 k (by omega) (fun e=>by have:=(x6.lt k e.symm).1;have:=HWU;omega)]
   exact hk6
 ·rw [bs u (by omega),b8 u (by omega) (fun e=>by have:=(x6.lt u e.symm).1;omega)]
  exact r6
 ·rw [set_known vx' u8];rfl
 ·show (w8.setCell ⟨u+1,1,none⟩ vx').ownsRow (u+2) 41 4 vx' (j+1) (vcl (ext (exts o C j) (C j)) C j ++ gcl (rnm (ext (exts o C j) (C j)) (C j)))
  rw [et,vcl_pre (fun k hk q=>exts_mem hk q),← et]
  exact own_keep hr (fun g e=>bs g (own_ty hr u8 (by decide) e))
end Go.Proofs.Ytamcnmnaadpfoaa.Fo
