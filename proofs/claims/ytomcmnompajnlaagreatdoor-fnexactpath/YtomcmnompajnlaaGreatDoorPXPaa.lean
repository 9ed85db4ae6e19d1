import Derived.Test.YtomcmnompajnlaaGreatDoorBSpy
import Derived.Test.YtomcmnompajnlaaGreatDoorCSkt
import Derived.Test.YtomcmnompajnlaaGreatDoorBSpf
import Derived.Test.YtomcmnompajnlaaGreatDoorBSpe
import Derived.Test.YtomcmnompajnlaaGreatDoorBTud
import Derived.Test.YtomcmnompajnlaaGreatDoorBSkm
import Derived.Test.YtomcmnompajnlaaGreatDoorCSko
import Derived.Test.YtomcmnompajnlaaGreatDoorCSkxd
import Derived.Test.YtomcmnompajnlaaGreatDoorBBab
import Derived.Test.YtomcmnompajnlaaGreatDoorCSkf
import Derived.Test.YtomcmnompajnlaaGreatDoorCSka
import Derived.Test.YtomcmnompajnlaaGreatDoorCBaf
import Derived.Test.YtomcmnompajnlaaGreatDoorPXBab
import Derived.Deep.Slices
import Derived.SizedLaws
import Derived.Carry
import Derived.Deep.QuietTactic
import Derived.BigQuiet
import Derived.Test.YtomcmnompajnlaaGreatDoorCSkg
import Derived.Test.YtomcmnompajnlaaGreatDoorCSkxb
import Derived.Test.YtomcmnompajnlaaGreatDoorBTkc
import Derived.Test.YtomcmnompajnlaaGreatDoorBSdj
import Derived.Test.YtomcmnompajnlaaGreatDoorBSdd
import Derived.Test.YtomcmnompajnlaaGreatDoorBSbk
import Derived.Test.YtomcmnompajnlaaGreatDoorBSda
import Derived.Test.YtomcmnompajnlaaGreatDoorBScc
import Derived.Test.YtomcmnompajnlaaGreatDoorBSbd
import Derived.Test.YtomcmnompajnlaaGreatDoorBRab
import Derived.Test.YtomcmnompajnlaaGreatDoorBShc
import Derived.Test.YtomcmnompajnlaaGreatDoorBQua
import Derived.Test.YtomcmnompajnlaaGreatDoorProg
import GoSem.Claim
import GoSem.ClaimJoined
import GoSem.ClaimMapViews
import Derived.JoinedTies
import Derived.KernelRfl
import Derived.WalkKit
import Derived.ProofKit
import Derived.OpenShut
import Derived.Handy
import Derived.Laws.Strings3
import Derived.Lib.Strings
import Derived.Laws.OwnMore
import Derived.Laws.IdiomStrings
import Derived.Lib.UnsafeStr
import Derived.Deep.AppendLies
import Derived.Deep.MidRow
import Derived.Shelf.Strconv.Clone
import Derived.Lib.ConvBytes
import Derived.Lib.AtoiErrMem
import Derived.Lib.AtoiAllMem
import Derived.Laws.Closers25
import Derived.Laws.Closers25b
import Derived.BigCall
import Derived.BigGuard
import Derived.Lib.IfaceNeq
import Derived.Lib.IfaceEq
import Derived.Deep.RegionWith
import Derived.RangeFuncNested
import Derived.RangeFuncBound
import Derived.RangeFuncCalls
import Derived.RangeFuncLeaves
import Derived.Shelf.Abstract
import Derived.Shelf.RegionOpen
import Derived.OwnWalkIn
import Derived.TacticsInMore
import Derived.LoopNIn
import Derived.LoopIn
import Derived.Maps.AppendAt
import Derived.Lib.BufferRead
import Derived.BigRegion
import Derived.Deep.Cut
import Derived.Deep.CutBlock
import Derived.Deep.Light
import Derived.Deep.RegionHeldLaw
import Derived.Test.YtomcmnompajnlaaGreatDoorBQsh
import Derived.Shelf.Strings.Builder1
import Derived.Test.YtomcmnompajnlaaGreatDoorBSpb
import Derived.Test.YtomcmnompajnlaaGreatDoorBSpi
import Derived.RangeFuncFrom
import Derived.RangeFuncBox
import Derived.Test.YtomcmnompajnlaaGreatDoorBSpl
set_option maxRecDepth 100000
set_option maxHeartbeats 16000000
namespace Go.Proofs.YtomcmnompajnlaaGreatDoor.Fo
open Go.ChangeShapes Go.WideShapes Go.ChangeAt Go.RowKit
set_option linter.unusedVariables false
def cov (F:Nat→Gv) (x:Int) (i:Nat):Prop:=(F i).a.f≤x∧x < (F i).a.t
def Hit (F:Nat→Gv) (x:Int) (K:Nat→Int) (q j:Nat):Prop:=j < q∧cov F x (K j).toNat∧∀ m,m < j→¬ cov F x (K m).toNat
def NoHit (F:Nat→Gv) (x:Int) (K:Nat→Int) (q:Nat):Prop:=∀ m,m < q→¬ cov F x (K m).toNat
inductive Pt (F:Nat→Gv) (x:Int):(Nat→Int)→Nat→List Nat→Prop
  | stop (K:Nat→Int) (q:Nat):NoHit F x K q→Pt F x K q []
  | step (K:Nat→Int) (q j:Nat) (xs:List Nat):Hit F x K q j→Pt F x (F (K j).toNat).K (F (K j).toNat).q xs→Pt F x K q ((K j).toNat :: xs)
theorem Hit.uniq {F:Nat→Gv} {x:Int} {K:Nat→Int} {q j j':Nat} (h:Hit F x K q j) (h':Hit F x K q j'):j=j':=by
  rcases Nat.lt_trichotomy j j' with g | g | g
  · exact absurd h.2.1 (h'.2.2 j g)
  · exact g
  · exact absurd h'.2.1 (h.2.2 j' g)
theorem hit_or (F:Nat→Gv) (x:Int) (K:Nat→Int):∀ q,(∃ j,Hit F x K q j)∨NoHit F x K q:=by
  intro q
  induction q with
  | zero=>exact .inr (fun m hm=>by omega)
  | succ q ih =>
    rcases ih with ⟨j,h⟩ | h
    · exact .inl ⟨j,by have:=h.1;omega,h.2⟩
    · rcases Classical.em (cov F x (K q).toNat) with g | g
      · exact .inl ⟨q,by omega,g,h⟩
      · refine .inr (fun m hm=>?_)
        by_cases e:m=q
        · rw [e];exact g
        · exact h m (by omega)
theorem Pt.uniq {F:Nat→Gv} {x:Int} {K:Nat→Int} {q:Nat} {xs ys:List Nat} (h:Pt F x K q xs) (h':Pt F x K q ys):xs=ys:=by
  induction h generalizing ys with
  | stop K q a=>cases h' with
    | stop _ _ b=>rfl
    | step _ _ j zs b c=>exact absurd b.2.1 (a j b.1)
  | step K q j xs a _ ih=>cases h' with
    | stop _ _ b=>exact absurd a.2.1 (b j a.1)
    | step _ _ j' zs b c =>
      obtain rfl:=a.uniq b
      rw [ih c]
theorem Pt.hit {F:Nat→Gv} {x:Int} {K:Nat→Int} {q j:Nat} {xs:List Nat} (h:Pt F x K q xs) (g:Hit F x K q j):∃ ys,xs=(K j).toNat :: ys∧Pt F x (F (K j).toNat).K (F (K j).toNat).q ys:=by
  cases h with
  | stop _ _ b=>exact absurd g.2.1 (b j g.1)
  | step _ _ j' zs b c =>
    obtain rfl:=g.uniq b
    exact ⟨zs,rfl,c⟩
theorem Pt.none {F:Nat→Gv} {x:Int} {K:Nat→Int} {q:Nat} {xs:List Nat} (h:Pt F x K q xs) (g:NoHit F x K q):xs = []:=by
  cases h with
  | stop _ _ b=>rfl
  | step _ _ j' zs b c=>exact absurd b.2.1 (g j' b.1)
theorem pt_ex {F:Nat→Gv} {n:Nat} (x:Int) (hK:Kn F n):∀ (b:Nat),b≤n→∀ (K:Nat→Int) (q:Nat),(∀ j,j < q→0≤K j∧K j < (b:Int))→∃ xs,Pt F x K q xs∧xs.length≤b:=by
  intro b
  induction b with
  | zero=>intro _ K q h;exact ⟨[],.stop K q (fun m hm=>by have:=h m hm;omega),Nat.le_refl _⟩
  | succ b ih =>
    intro hb K q h
    rcases hit_or F x K q with ⟨j,hj⟩ | hj
    · have hk:=h j hj.1
      obtain ⟨xs,h1,h2⟩:=ih (by omega) (F (K j).toNat).K (F (K j).toNat).q (fun m hm=>by have:=hK (K j).toNat (by omega) m hm;omega)
      exact ⟨_,.step K q j xs hj h1,by simp;omega⟩
    · exact ⟨[],.stop K q hj,by simp⟩
def Pf (F:Nat→Gv) (n:Nat) (x:Int) (P:List Nat):Prop:=(∃ c f,Fl nmp flp F n c f∧c ≠ 0∧P = [])∨(∃ f,Fl nmp flp F n 0 f∧Pt F x (fun _=>(n:Int) - 1) 1 P)
theorem fl_sound {F:Nat→Gv} {n:Nat} {c f:Int} (h:Fl nmp flp F n c f) (h0:c=0):f=0∧0 < n∧n≤3000∧Kn F n:=by
  cases h with
  | sound a1 a2 a3 a4=>exact ⟨rfl,a1,a2,mis_kn a4⟩
  | _=>exact absurd h0 (by decide)
def pv (P:List Nat):List Value:=P.map (fun i:Nat=>(.int .i64 (i:Int):Value))
def pa' (P:List Nat) (i:Nat):Int:=((P[i]?.getD 0:Nat):Int)
theorem pv_lst (P:List Nat):pv P=lst (fun i=>.int .i64 (pa' P i)) P.length:=by
  apply List.ext_getElem?
  intro i
  rcases Nat.lt_or_ge i P.length with h | h
  · rw [lst_at _ _ _ h]
    simp [pv,pa',h]
  · rw [List.getElem?_eq_none (by simp [pv];omega),List.getElem?_eq_none (by rw [lst_len];omega)]
def Got (w W:World) (P:List Nat) (v:Value):Prop:=∃ g,OwnR W v g P.length (fun i=>.int .i64 (pa' P i))∧(0 < P.length→w.heap.size≤g∧g < W.heap.size)
theorem got_of {w W:World} {P:List Nat} {v:Value} {b:Nat} (h:W.ownsRow b 3 1 v P.length (pv P)) (hb:w.heap.size≤b):Got w W P v:=by
  rw [pv_lst] at h
  obtain ⟨g,h1,h2⟩:=own_of h
  exact ⟨g,h1,fun hp=>by have:=h2 hp;omega⟩
theorem Got.kz {w W W':World} {P:List Nat} {v:Value} (h:Got w W P v) (k:Kz W W'):Got w W' P v:=by
  obtain ⟨g,h1,h2⟩:=h
  exact ⟨g,h1.block (fun hp=>k.block g (h2 hp).2),fun hp=>⟨(h2 hp).1,Nat.lt_of_lt_of_le (h2 hp).2 k.size⟩⟩
theorem got_nil (w W:World):Got w W [] (.slice none 0 0):=⟨0,⟨⟨_,_,rfl,fun f=>by simp at f⟩,fun i hi=>by simp at hi,fun f=>by simp at f⟩,fun f=>by simp at f⟩
structure Pg (w:World) (v0:Value) (pre:List Nat) (v:Value) (W:World):Prop where
  bl:Below w.heap.size w W
  ct:W.cell? ⟨w.heap.size,0,none⟩=some v0
  row:W.ownsRow (w.heap.size+1) 3 1 v pre.length (pv pre)
theorem Pg.shape {w:World} {v0:Value} {pre:List Nat} {v:Value} {W:World} (h:Pg w v0 pre v W):∃ (ad:Option Addr) (cap:Nat),v = .slice ad pre.length cap:=by
  rcases h.row.2 with ⟨rfl,e⟩ | ⟨g,cap,cur,rfl,_⟩
  · exact ⟨none,0,by rw [show pre.length=0 from e]⟩
  · exact ⟨_,cap,rfl⟩
theorem Pg.step {w : World} {v0 : Value} {pre : List Nat} {v v' : Value} {W w2 : World} {a b : Obj} {i : Nat} (h : Pg w v0 pre v W) (ho : w2.ownsRow (w.heap.size + 1) 3 1 v' (pre.length + 1) (pv pre ++ [.int .i64 (i : Int)])) (hg : ((W.alloc a).alloc b).grownBy w2 v.ownBlock) :
    Pg w v0 (pre ++ [i]) v' w2∧W.heap.size+2≤w2.heap.size∧∀ k,k < w.heap.size+1∨(W.heap.size≤k∧k < W.heap.size+2)→w2.heap[k]? = ((W.alloc a).alloc b).heap[k]?:=by
  have hne:∀ k,k < w.heap.size+1∨(W.heap.size≤k∧k < W.heap.size+2)→some k ≠ v.ownBlock:=fun k hk e=>by
    have:=h.row.lt k e.symm
    omega
  have hsz:=h.bl.size
  have hl:=lt_of_cell h.ct
  have hs2:W.heap.size+2≤w2.heap.size:=by have:=hg.size;simp at this;omega
  have hk:∀ k,k < w.heap.size+1∨(W.heap.size≤k∧k < W.heap.size+2)→w2.heap[k]? = ((W.alloc a).alloc b).heap[k]?:=fun k hk=>hg.block k (by simp;omega) (hne k hk)
  have h2:∀ k,k < w.heap.size+1→w2.heap[k]? = W.heap[k]?:=fun k h1=>(hk k (.inl h1)).trans (by rw [Below.heap_alloc _ _ _ (by simp;omega),Below.heap_alloc _ _ _ (by omega)])
  refine ⟨⟨⟨hg.os.trans h.bl.os,hg.tape.trans h.bl.tape,hg.output.trans h.bl.output,by omega,fun k h1=>(h2 k (by omega)).trans (h.bl.block k h1)⟩,(World.cell?_of_block (h2 w.heap.size (by omega))).trans h.ct,?_⟩,hs2,hk⟩
  have e:pv (pre ++ [i])=pv pre ++ [.int .i64 (i:Int)]:=by simp [pv]
  rw [e,List.length_append]
  exact ho
theorem sp_path {v : Value} {n : Nat} {F : Nat → Gv} {P : List Nat} (x : Int) (w : World) (hf : RowF w v n F) (hn : n ≤ 1048576) (hp : ∀ i, i < n → (F i).p ≤ 1048576) (hq : ∀ i, i < n → (F i).q ≤ 1048576) (hP : Pf F n x P) :
    Calls Tryz.prog 14 #[.agg #[v],.int .i64 x] w fun e w'=>∃ u,e = .returned u∧Got w w' P u∧Below w.heap.size w w':=by
  have HSO:Hid (∀ o:Obj,Calls Tryz.prog 9 #[.agg #[v]] (w.alloc o) fun e w'=>∃ c f,e = .returned (.agg #[.int .i64 c,.int .i64 f])∧Fl nmp flp F n c f∧Below (w.alloc o).heap.size (w.alloc o) w'):=(fun o=>sp_sheet nm_s fl_s (w.alloc o) (hf.below (bel1 _ _)) hn hp hq:∀ o:Obj,_)
  obtain ⟨pf,cf,rfl,hf2⟩:=hf
  have HF2:Hid ((0 < n→∃ a:Addr,pf=some a∧n≤cf∧∀ i,i < n→FormC w (a.add (i*9)) (F i))∧Pf F n x P∧∀ i,i < n→(F i).q≤1048576):=(⟨hf2,hP,hq⟩:_∧_∧_)
  obtain ⟨i0,hi0,hz0,hz1,hz2⟩:=info_parts info3
  have HI0:Hid (Tryz.prog.info? 3=some i0):=hi0
  clear hf2 hn hp hq hP hi0
  go_enter Tryz.func14,Tryz.ntmps14
  go_wp2_with fail
  refine ((show ∀ o:Obj,_ from HSO) _).mono ?_
  rintro e w1 ⟨c,f,rfl,hfl,b1⟩
  have B1:Below w.heap.size w w1:=(bel1 w _).trans (b1.mono (by simp))
  have c1:w1.cell? ⟨w.heap.size,0,none⟩=some (.slice pf n cf):=(b1.cell (p:=⟨w.heap.size,0,none⟩) (by show w.heap.size < _;simp)).trans (cell_new1 w _ _)
  obtain ⟨hf2,hP,hq⟩:=(show (0 < n→∃ a:Addr,pf=some a∧n≤cf∧∀ i,i < n→FormC w (a.add (i*9)) (F i))∧Pf F n x P∧∀ i,i < n→(F i).q≤1048576 from HF2)
  clear HSO b1
  by_cases h0:c=0
  case neg =>
    have h0':(c != 0)=true:=bne_iff_ne.2 h0
    have hPe:P = []:=by
      rcases hP with ⟨_,_,_,_,e⟩ | ⟨f',a',_⟩
      · exact e
      · exact absurd (Fl.uniq hfl a').1 h0
    subst hPe
    have HB1:Hid (Below w.heap.size w w1):=B1
    clear hf2 hP hq HF2 hfl h0 c1 B1
    go_wp2_with fail
    go_ret
    exact ⟨_,rfl,got_nil _ _,(show Below w.heap.size w w1 from HB1).alloc (show Below w.heap.size w w1 from HB1).size _⟩
  subst h0
  obtain ⟨rfl,hn0,hn3,hK⟩:=fl_sound hfl rfl
  obtain ⟨cd,rfl,hcc,hrc⟩:=hf2 hn0
  have hPt:Pt F x (fun _=>(n:Int) - 1) 1 P:=by
    rcases hP with ⟨c',f',a',b',_⟩ | ⟨f',a',b'⟩
    · exact absurd (Fl.uniq hfl a').1.symm b'
    · exact b'
  have hPl:P.length≤n:=by
    obtain ⟨xs,h1,h2⟩:=pt_ex x hK n (Nat.le_refl _) (fun _=>(n:Int) - 1) 1 (fun j _=>by omega)
    rw [hPt.uniq h1];exact h2
  have HST:Hid ((∀ i,i < n→FormC w (cd.add (i*9)) (F i))∧Kn F n∧∀ i,i < n→(F i).q≤1048576):=(⟨hrc,hK,hq⟩:_∧_∧_)
  have hnI:(n:Int)≤3000:=by omega
  have hnI0 : 0 < (n:Int):=by omega
  obtain ⟨W2,hW2⟩:∃ W2,W2=w1.alloc (.cells #[.int .i64 0,.int .i64 0] 27):=⟨_,rfl⟩
  have hg0:Pg w (.slice (some cd) n cf) [] (.slice none 0 0) W2:=by
    refine ⟨?_,?_,World.ownsRow_nil _ _ _ _⟩
    · rw [hW2];exact B1.alloc B1.size _
    · rw [hW2];exact ((bel1 w1 _).cell (p:=⟨w.heap.size,0,none⟩) (lt_of_cell c1)).trans c1
  have HG0:Hid (Pg w (.slice (some cd) n cf) [] (.slice none 0 0) W2∧P = [] ++ P∧Pt F x (fun _=>(n:Int) - 1) 1 P):=(⟨hg0,rfl,hPt⟩:_∧_∧_)
  have c2:∀ o:Obj,(w1.alloc o).cell? ⟨w.heap.size,0,none⟩=some (.slice (some cd) n cf):=fun o=>((bel1 w1 o).cell (p:=⟨w.heap.size,0,none⟩) (lt_of_cell c1)).trans c1
  clear hf2 hP hq HF2 hfl hrc hK hPt B1 c1 hg0
  go_wp2_with fail
  rw [← hW2]
  clear hW2 c2
  go_loopw [6,7] (fun s6 s7 wr=>∃ (i:Int) (pre rest:List Nat),s7 = .int .i64 i ∧ -1≤i∧i < (n:Int)∧Hid (Pg w (.slice (some cd) n cf) pre s6 wr∧P=pre ++ rest∧((i = -1∧rest = [])∨(0≤i∧Pt F x (fun _=>i) 1 rest)))) (fun _ s7 _=>(intOf s7+1).toNat)
  case atStart=>exact ⟨(n:Int) - 1,[],P,rfl,by omega,by omega,(⟨HG0.1,HG0.2.1,.inr ⟨by omega,HG0.2.2⟩⟩:_∧_∧_)⟩
  case round =>
    clear HG0
    obtain ⟨i,pre,rest,rfl,hi1,hi2,HI⟩:=hrel
    obtain ⟨hg,hpe,hr⟩:=(show Pg w (.slice (some cd) n cf) pre u6 wr∧P=pre ++ rest∧((i = -1∧rest = [])∨(0≤i∧Pt F x (fun _=>i) 1 rest)) from HI)
    obtain ⟨ad,cap,rfl⟩:=hg.shape
    have c1:=hg.ct
    rcases Int.lt_or_le i 0 with hi | hi
    · have hi':¬ 0≤i:=by omega
      have HX:Hid (Got w wr P (.slice ad pre.length cap)∧Below w.heap.size w wr):=by
        have hre:rest = []:=by rcases hr with ⟨_,e⟩ | ⟨e,_⟩;exact e;omega
        subst hre
        rw [List.append_nil] at hpe
        subst hpe
        exact (⟨got_of (w:=w) hg.row (by omega),hg.bl⟩:_∧_)
      clear HI hg hpe hr HST c1
      go_wp2_with fail
      go_ret
      exact ⟨_,rfl,HX.1,HX.2⟩
    · obtain ⟨ii,rfl⟩:∃ ii:Nat,i=(ii:Int):=⟨i.toNat,by omega⟩
      have hiN:ii < n:=by omega
      have hPt:Pt F x (fun _=>(ii:Int)) 1 rest:=by rcases hr with ⟨e,_⟩ | ⟨_,e⟩;omega;exact e
      obtain ⟨hrc,hK,hq⟩:=(show (∀ i,i < n→FormC w (cd.add (i*9)) (F i))∧Kn F n∧∀ i,i < n→(F i).q≤1048576 from HST)
      obtain ⟨vn,vk,hc9,hrn,hrk⟩:=(hrc ii hiN).below hg.bl
      obtain ⟨pn,cn,rfl,_⟩:=hrn
      have hrkw:=hrk
      obtain ⟨pk,ck,rfl,hk2⟩:=hrk
      obtain ⟨e0,e1,e2,e3,e4,e5,e6,e7,e8⟩:=hc9
      have hqi:=hq ii hiN
      have hqI:((F ii).q:Int)≤1048576:=by omega
      rcases Classical.em (cov F x ii) with hcv | hcv
      case inr =>
        have hre:rest = []:=hPt.none (fun m hm=>by simpa using hcv)
        have HX:Hid (Got w wr P (.slice ad pre.length cap)∧Below w.heap.size w wr):=by
          subst hre
          rw [List.append_nil] at hpe
          subst hpe
          exact (⟨got_of (w:=w) hg.row (by omega),hg.bl⟩:_∧_)
        have hcc2:x < (F ii).a.f∨((F ii).a.f≤x∧(F ii).a.t≤x):=by unfold cov at hcv;omega
        clear HI hg hpe hr HST hrc hK hq hrkw hk2 hPt hre hcv hqi
        rcases hcc2 with g | ⟨g,g2⟩
        · go_wp2_with fail
          go_ret
          exact ⟨_,rfl,(show Got w wr P _ from HX.1).kz (.of_below (bel1 _ _)),(show Below w.heap.size w wr from HX.2).alloc (show Below w.heap.size w wr from HX.2).size _⟩
        · have g':¬ x < (F ii).a.f:=by omega
          go_wp2_with fail
          go_ret
          exact ⟨_,rfl,(show Got w wr P _ from HX.1).kz (.of_below (bel1 _ _)),(show Below w.heap.size w wr from HX.2).alloc (show Below w.heap.size w wr from HX.2).size _⟩
      obtain ⟨rest',hre,hPt'⟩:=hPt.hit (j:=0) ⟨by omega,by simpa using hcv,fun m hm=>by omega⟩
      simp only [Int.toNat_natCast] at hre hPt'
      have hpl:pre.length+1≤3000:=by
        have:=congrArg List.length hpe
        rw [hre,List.length_append,List.length_cons] at this
        omega
      have HSTP : Hid (∀ (v' : Value) (w2 : World), w2.ownsRow (w.heap.size + 1) 3 1 v' (pre.length + 1) (pv pre ++ [.int .i64 (ii : Int)]) → ((wr.alloc (.cells #[.int .i64 (F ii).a.k, .int .i64 (F ii).a.f, .int .i64 (F ii).a.t, .int .i64 (F ii).a.l, .int .i64 (F ii).a.o, .int .i64 (F ii).a.m, .string (F ii).a.x, .slice pn (F ii).p cn, .slice pk (F ii).q ck] 64)).alloc (.cells #[.int .i64 (ii : Int)] 3)).grownBy w2 (Value.slice ad pre.length cap).ownBlock →
          w2.cell? ⟨wr.heap.size,8,none⟩=some (.slice pk (F ii).q ck)∧Pg w (.slice (some cd) n cf) (pre ++ [ii]) v' w2):=(fun v' w2 ho hgr=>by
        obtain ⟨s1,s2,s3⟩:=hg.step ho hgr
        refine ⟨?_,s1⟩
        rw [World.cell?_of_block (s3 wr.heap.size (.inr ⟨by omega,by omega⟩)),World.cell?_alloc_past _ _ _ (by simp),World.cell?_alloc_at _ _ _ _ rfl]
        rfl:∀ (v':Value) (w2:World),_)
      have howna:∀ a b:Obj,((wr.alloc a).alloc b).ownsRow (w.heap.size+1) 3 1 (.slice ad pre.length cap) pre.length (pv pre):=fun a b=>(hg.row.alloc a).alloc b
      have hqc:∀ (o:Obj) (j:Nat) (u:Value),[(.int .i64 (ii:Int):Value)][j]? = some u→((wr.alloc o).alloc (.cells #[.int .i64 (ii:Int)] 3)).cell? ((⟨wr.heap.size+1,0,none⟩:Addr).add j)=some u:=fun o=>by
        have:=qr_cells (wr.alloc o) #[.int .i64 (ii:Int)] 3 [.int .i64 (ii:Int)] rfl
        simpa using this
      have h1c:∀ u ∈ [(.int .i64 (ii:Int):Value)],u.oneCell'=true:=by intro u hu;simp at hu;subst hu;rfl
      have hbs:w.heap.size+1≤wr.heap.size:=lt_of_cell hg.ct
      have g1:¬ x < (F ii).a.f:=by have:=hcv.1;omega
      have g2:¬ (F ii).a.t≤x:=by have:=hcv.2;omega
      have HRE:Hid (P=(pre ++ [ii]) ++ rest'∧Pt F x (F ii).K (F ii).q rest'∧ii < n):=(⟨by rw [hpe,hre,List.append_assoc];rfl,hPt',hiN⟩:_∧_∧_)
      have HK2:Hid (0 < (F ii).q→∃ a:Addr,pk=some a∧(F ii).q≤ck∧∀ j,j < (F ii).q→w.cell? (a.add j)=some (.int .i64 ((F ii).K j))):=by
        obtain ⟨vn',vk',hc',_,⟨pk',ck',rfl,hk'⟩⟩:=hrc ii hiN
        have q8:=(hg.bl.cell (p:=⟨(cd.add (ii*9)).block,(cd.add (ii*9)).off+8,none⟩) (lt_of_cell' hc'.c8)).trans hc'.c8
        rw [e8] at q8
        simp only [Option.some.injEq,Value.slice.injEq] at q8
        obtain ⟨rfl,_,rfl⟩:=q8
        exact hk'
      clear HI hg hpe hr hrc hK hq hrkw hk2 hPt hre hcv hqi hPt'
      go_wp2_with (at_builtin;refine wpList_append_own _ rfl (.tmp 38) (.tmp 40) 36 rfl (w.heap.size+1) 3 i0 (.int .i64 0) 1 8 Tryz.underlying36 HI0 hz0 hz1 hz2 rfl (by decide) _ _ _ rfl (howna _ _) ⟨wr.heap.size+1,0,none⟩ 1 1 [.int .i64 (ii:Int)] rfl rfl (hqc _) h1c (by unfold maxLen;omega) (by omega) (by simp;omega) ?_;intro v' w2 hown1 hgrow1 _;obtain ⟨g',cap',rfl,_,_⟩:=hown1.form (by omega);obtain ⟨d8,hfin⟩:=(show ∀ (v':Value) (w2:World),_ from HSTP) _ _ hown1 hgrow1;have HN:Hid (Pg w (.slice (some cd) n cf) (pre ++ [ii]) (.slice (some ⟨g',0,none⟩) (pre.length+1) cap') w2):=hfin;clear hfin HSTP hown1 hgrow1 howna hqc h1c e0 e1 e2 e3 e4 e5 e6 e7 e8 c1)
      clear d8
      go_loopw [7,45] (fun s7 s45 wv=>∃ (j:Nat) (z:Int),s45 = .int .i64 (j:Int)∧s7 = .int .i64 z∧j≤(F ii).q∧wv=w2 ∧ -1≤z∧z < (ii:Int)∧Hid ((z = -1∧NoHit F x (F ii).K j)∨(0≤z∧∃ h,z=(F ii).K h∧Hit F x (F ii).K j h))) (fun _ s45 _=>(F ii).q - (intOf s45).toNat)
      case atStart=>exact ⟨0,-1,rfl,rfl,Nat.zero_le _,rfl,by omega,by omega,(.inl ⟨rfl,fun m hm=>by omega⟩:_∨_)⟩
      case round =>
        rename_i wr0 _ _ _ _
        obtain ⟨j,z,rfl,rfl,hjq,rfl,hz1',hz2',HZ⟩:=hrel
        have hN:=(show Pg w (.slice (some cd) n cf) (pre ++ [ii]) (.slice (some ⟨g',0,none⟩) (pre.length+1) cap') wr from HN)
        have c1:=hN.ct
        obtain ⟨hrc,hK,hq⟩:=(show (∀ i,i < n→FormC w (cd.add (i*9)) (F i))∧Kn F n∧∀ i,i < n→(F i).q≤1048576 from HST)
        have hiN:=(show _∧_∧ii < n from HRE).2.2
        rcases Nat.lt_or_ge j (F ii).q with hj | hj
        · have hjI:(j:Int) < ((F ii).q:Int):=by omega
          obtain ⟨b,rfl,hcb,hrb⟩:=(show 0 < (F ii).q→∃ a:Addr,pk=some a∧(F ii).q≤ck∧∀ j,j < (F ii).q→w.cell? (a.add j)=some (.int .i64 ((F ii).K j)) from HK2) (by omega)
          have qa:=(hN.bl.cell (lt_of_cell' (hrb j hj))).trans (hrb j hj)
          obtain ⟨kx,hkx⟩:∃ kx,kx=(F ii).K j:=⟨_,rfl⟩
          have hk0:=hK ii hiN j hj
          rw [← hkx] at qa hk0
          have hkn:kx < (n:Int):=by omega
          have hk1 : 0≤kx:=hk0.1
          obtain ⟨_,_,hc9,_,_⟩:=(hrc kx.toNat (by omega)).below hN.bl
          have f1:=hc9.c1
          have f2:=hc9.c2
          have hcvj:cov F x ((F ii).K j).toNat↔((F kx.toNat).a.f≤x∧x < (F kx.toNat).a.t):=by rw [← hkx];exact Iff.rfl
          rcases (show (z = -1∧NoHit F x (F ii).K j)∨(0≤z∧∃ h,z=(F ii).K h∧Hit F x (F ii).K j h) from HZ) with ⟨rfl,hno⟩ | ⟨hz0',h,hze,hh⟩
          · rcases Classical.em (cov F x ((F ii).K j).toNat) with hcv | hcv
            · have HX:Hid ((kx = -1∧NoHit F x (F ii).K (j+1))∨(0≤kx∧∃ h,kx=(F ii).K h∧Hit F x (F ii).K (j+1) h)):=(.inr ⟨hk1,j,hkx,by omega,hcv,hno⟩:_∨_)
              have y1:=(hcvj.1 hcv).1
              have y2:=(hcvj.1 hcv).2
              have y3:kx < (ii:Int):=hk0.2
              clear HZ HK2 HRE HST hN hrc hK hq hrb hc9 hcvj hcv hno hkx hk0
              go_wp2_with fail
              go_roundw
              case rel=>exact ⟨j+1,kx,by go_num,rfl,by omega,by first | trivial | rfl,by omega,by omega,HX⟩
              case measure=>simp [intOf];omega
            · have HX : Hid (((-1 : Int) = -1 ∧ NoHit F x (F ii).K (j + 1)) ∨ (0 ≤ (-1 : Int) ∧ ∃ h, (-1 : Int) = (F ii).K h ∧ Hit F x (F ii).K (j + 1) h)) := (.inl ⟨rfl, fun m hm => by
                by_cases e:m=j
                · rw [e];exact hcv
                · exact hno m (by omega)⟩:_∨_)
              have y:x < (F kx.toNat).a.f∨((F kx.toNat).a.f≤x∧(F kx.toNat).a.t≤x):=by
                have:¬ ((F kx.toNat).a.f≤x∧x < (F kx.toNat).a.t):=fun e=>hcv (hcvj.2 e)
                omega
              clear HZ HK2 HRE HST hN hrc hK hq hrb hc9 hcvj hcv hno hkx hk0
              rcases y with y | ⟨y,y2⟩
              · have y':¬ (F kx.toNat).a.f≤x:=by omega
                go_wp2_with fail
                go_roundw
                case rel=>exact ⟨j+1,-1,by go_num,rfl,by omega,by first | trivial | rfl,by omega,by omega,HX⟩
                case measure=>simp [intOf];omega
              · have y':¬ x < (F kx.toNat).a.t:=by omega
                go_wp2_with fail
                go_roundw
                case rel=>exact ⟨j+1,-1,by go_num,rfl,by omega,by first | trivial | rfl,by omega,by omega,HX⟩
                case measure=>simp [intOf];omega
          · have HX:Hid ((z = -1∧NoHit F x (F ii).K (j+1))∨(0≤z∧∃ h,z=(F ii).K h∧Hit F x (F ii).K (j+1) h)):=(.inr ⟨hz0',h,hze,by have:=hh.1;omega,hh.2⟩:_∨_)
            have hz':¬ z < 0:=by omega
            clear HZ HK2 HRE HST hN hrc hK hq hrb hc9 hcvj hkx hk0 hze hh
            go_wp2_with fail
            go_roundw
            case rel=>exact ⟨j+1,z,by go_num,rfl,by omega,by first | trivial | rfl,by omega,by omega,HX⟩
            case measure=>simp [intOf];omega
        · have ej:j=(F ii).q:=by omega
          obtain ⟨hPe,hPt',_⟩:=(show P=(pre ++ [ii]) ++ rest'∧Pt F x (F ii).K (F ii).q rest'∧ii < n from HRE)
          have HX:Hid (Pg w (.slice (some cd) n cf) (pre ++ [ii]) (.slice (some ⟨g',0,none⟩) (pre.length+1) cap') wr∧P=(pre ++ [ii]) ++ rest'∧((z = -1∧rest' = [])∨(0≤z∧Pt F x (fun _=>z) 1 rest'))):=by
            refine (⟨hN,hPe,?_⟩:_∧_∧_)
            rcases (show (z = -1∧NoHit F x (F ii).K j)∨(0≤z∧∃ h,z=(F ii).K h∧Hit F x (F ii).K j h) from HZ) with ⟨e,hno⟩ | ⟨hz0',h,hze,hh⟩
            · rw [ej] at hno
              exact .inl ⟨e,hPt'.none hno⟩
            · rw [ej] at hh
              obtain ⟨ys,e1,e2⟩:=hPt'.hit hh
              rw [← hze] at e1 e2
              rw [e1]
              exact .inr ⟨hz0',.step (fun _=>z) 1 0 ys ⟨by omega,by have:=hh.2.1;rw [← hze] at this;exact this,fun m hm=>by omega⟩ e2⟩
          have hpl2:pre.length+1=(pre ++ [ii]).length:=by simp
          rw [ej]
          clear HZ HK2 HRE HST hN hrc hK hq hPe hPt' ej hj hjq HN c1
          go_wp2_with fail
          go_roundw
          case rel=>exact ⟨z,pre ++ [ii],rest',rfl,by omega,by omega,HX⟩
          case measure=>simp [intOf];omega
structure Bxs (W:World) (t a:Nat) (c:Addr) (n cf:Nat) (x:Int) (F:Nat→Gv):Prop where
  ct:W.cell? ⟨t,0,none⟩=some (.slice (some c) n cf)
  ca:W.cell? ⟨a,0,none⟩=some (.int .i64 x)
  fr:∀ i,i < n→FormC W (c.add (i*9)) (F i)
theorem im_cov {W : World} {t a n cf : Nat} {c : Addr} {x : Int} {F : Nat → Gv} (h : Bxs W t a c n cf x F) (kx : Int) (h0 : 0 ≤ kx) (h1 : kx < (n : Int)) (hn : n ≤ 3000) :
    Calls Tryz.prog 45 #[.int .i64 kx,.pointer (some ⟨t,0,none⟩),.pointer (some ⟨a,0,none⟩)] W fun e w'=>e = .returned (.bool (dc (cov F x kx.toNat)))∧∃ d,w'=W.drewN d:=by
  have c1:=h.ct
  have c2:=h.ca
  obtain ⟨vn,vk,hc9,_,_⟩:=h.fr kx.toNat (by omega)
  have f1:=hc9.c1
  have f2:=hc9.c2
  have hnI:(n:Int)≤3000:=by omega
  clear h hc9 hn
  obtain ⟨R,hR⟩:∃ R,R=dc (cov F x kx.toNat):=⟨_,rfl⟩
  have HR:Hid (R=dc (cov F x kx.toNat)):=hR
  rw [← hR]
  clear hR
  generalize hf:(F kx.toNat).a.f=ff at *
  generalize ht:(F kx.toNat).a.t=tt at *
  have HC:Hid (cov F x kx.toNat↔(ff≤x∧x < tt)):=by show _↔_;unfold cov;rw [hf,ht]
  clear hf ht
  rcases Int.lt_or_le x ff with g | g
  · have HX:Hid (R=false):=(show R = _ from HR).trans (dc_f (fun z=>by have:=((show _↔_ from HC).1 z).1;omega))
    clear HR HC
    go_enter Tryz.func45,Tryz.ntmps45
    go_wp2_with fail
    have gd:(ff≤x)=False:=eq_false (by omega)
    go_quiet (skip)
    go_wp2_with fail
    go_ret
    exact ⟨by rw [show R=false from HX];rfl,_,rfl⟩
  · rcases Int.lt_or_le x tt with g2 | g2
    · have HX:Hid (R=true):=(show R = _ from HR).trans (dc_t ((show _↔_ from HC).2 ⟨g,g2⟩))
      clear HR HC
      go_enter Tryz.func45,Tryz.ntmps45
      go_wp2_with fail
      have gd:(ff≤x)=True:=eq_true (by omega)
      have gd2:(x < tt)=True:=eq_true (by omega)
      go_quiet (skip)
      go_wp2_with fail
      go_ret
      exact ⟨by rw [show R=true from HX];rfl,_,rfl⟩
    · have HX:Hid (R=false):=(show R = _ from HR).trans (dc_f (fun z=>by have:=((show _↔_ from HC).1 z).2;omega))
      clear HR HC
      go_enter Tryz.func45,Tryz.ntmps45
      go_wp2_with fail
      have gd:(ff≤x)=True:=eq_true (by omega)
      have gd2:(x < tt)=False:=eq_false (by omega)
      go_quiet (skip)
      go_wp2_with fail
      go_ret
      exact ⟨by rw [show R=false from HX];rfl,_,rfl⟩
theorem Bxs.drew {W:World} {t a n cf:Nat} {c:Addr} {x:Int} {F:Nat→Gv} (h:Bxs W t a c n cf x F) (d:Nat):Bxs (W.drewN d) t a c n cf x F :=
  ⟨h.ct,h.ca,fun i hi=>(h.fr i hi).below (bdn (Below.refl _ _) d)⟩
theorem en_cov:∀ args w,(callFunc 45 args).run Tryz.prog w = .ok (.enter 45 args) w:=enters_of Tryz.func45 (by kernel_rfl) rfl
theorem im_ixcov {W : World} {t a n cf q : Nat} {c : Addr} {x : Int} {F : Nat → Gv} {v : Value} {K : Nat → Int} (h : Bxs W t a c n cf x F) (hr : RowV W v q (fun i => .int .i64 (K i))) (hk : ∀ j, j < q → 0 ≤ K j ∧ K j < (n : Int)) (hn : n ≤ 3000) (hq : q ≤ 1048576) :
    Calls Tryz.prog 44 #[v,.func (.func 45) #[] #[.pointer (some ⟨t,0,none⟩),.pointer (some ⟨a,0,none⟩)]] W fun e w'=>(∃ r:Int,e = .returned (.int .i64 r)∧((∃ j:Nat,r=(j:Int)∧Hit F x K q j)∨(r = -1∧NoHit F x K q)))∧∃ d,w'=W.drewN d:=by
  obtain ⟨pa,ca,rfl,hr2⟩:=hr
  have hqI:(q:Int)≤1048576:=by omega
  have HR:Hid (Bxs W t a c n cf x F∧(0 < q→∃ a:Addr,pa=some a∧q≤ca∧∀ i,i < q→W.cell? (a.add i)=some (.int .i64 (K i)))∧(∀ j,j < q→0≤K j∧K j < (n:Int))∧n≤3000):=(⟨h,hr2,hk,hn⟩:_∧_∧_∧_)
  clear h hr2 hk hn hq
  have eg:=en_cov
  go_enter Tryz.func44,Tryz.ntmps44
  go_wp2_with fail
  go_loopw [8] (fun s8 wr=>∃ i d:Nat,s8 = .int .i64 (i:Int)∧i≤q∧wr=W.drewN d∧Hid (NoHit F x K i)) (fun s8 _=>q - (intOf s8).toNat)
  case atStart=>exact ⟨0,0,rfl,Nat.zero_le _,rfl,(fun j hj=>by omega:NoHit F x K 0)⟩
  case round =>
    obtain ⟨i,d,rfl,hin,rfl,HI⟩:=hrel
    obtain ⟨h,hr2,hk,hn⟩:=(show Bxs W t a c n cf x F∧(0 < q→∃ a:Addr,pa=some a∧q≤ca∧∀ i,i < q→W.cell? (a.add i)=some (.int .i64 (K i)))∧(∀ j,j < q→0≤K j∧K j < (n:Int))∧n≤3000 from HR)
    rcases Nat.lt_or_ge i q with hi | hi
    · have hiI:(i:Int) < (q:Int):=by omega
      obtain ⟨b,rfl,hcb,hrb⟩:=hr2 (by omega)
      have qa:=hrb i hi
      have hcall:=im_cov (h.drew d) (K i) (hk i hi).1 (hk i hi).2 hn
      by_cases hc:cov F x (K i).toNat
      · rw [dc_t hc] at hcall
        have HX:Hid (Hit F x K q i):=(⟨hi,hc,HI⟩:_∧_∧_)
        clear HI HR h hr2 hk hrb hc hn
        generalize K i=kx at *
        go_wp2_with (go_at_fn 45;refine hcall.mono ?_;rintro e w' ⟨rfl,d',rfl⟩)
        go_ret
        exact ⟨⟨(i:Int),rfl,.inl ⟨i,rfl,HX⟩⟩,_,rfl⟩
      · rw [dc_f hc] at hcall
        have HX:Hid (NoHit F x K (i+1)):=(fun j hj=>by
          by_cases e:j=i
          · rw [e];exact hc
          · exact (show NoHit F x K i from HI) j (by omega):NoHit F x K (i+1))
        clear HI HR h hr2 hk hrb hc hn
        generalize K i=kx at *
        go_wp2_with (go_at_fn 45;refine hcall.mono ?_;rintro e w' ⟨rfl,d',rfl⟩)
        go_roundw
        case rel=>exact ⟨i+1,_,by go_num,by omega,rfl,HX⟩
        case measure=>simp [intOf];omega
    · obtain rfl:i=q:=by omega
      clear HR h hr2 hk hn
      go_wp2_with fail
      go_ret
      exact ⟨⟨-1,rfl,.inr ⟨rfl,HI⟩⟩,_,rfl⟩
theorem im_sound {v : Value} {n : Nat} {F : Nat → Gv} (w : World) (hg : Gd w) (hf : RowF w v n F) (hn : n ≤ 1048576) (hp : ∀ i, i < n → (F i).p ≤ 1048576) (hq : ∀ i, i < n → (F i).q ≤ 1048576) (hm : ∀ i, i < n → -9223372036854775808 ≤ (F i).a.m ∧ (F i).a.m ≤ 9223372036854775807) :
    Calls Tryz.prog 43 #[.agg #[v]] w fun e w'=>(∃ c f,e = .returned (.bool (dc (c=0)))∧Fl nmp flp F n c f)∧Kz w w':=by
  have hs:=fun o:Obj=>im_sheet (w.alloc o) ((Kz.of_below (bel1 w o)).gd hg) (hf.kz (.of_below (bel1 _ _))) hn hp hq hm
  obtain ⟨pf,cf,rfl,_⟩:=hf
  clear hg hn hp hq hm
  go_enter Tryz.func43,Tryz.ntmps43
  go_wp2_with fail
  refine (hs _).mono ?_
  rintro e w1 ⟨c,f,rfl,hfl,k1⟩
  have HZ:Hid (Kz w w1∧Fl nmp flp F n c f):=(⟨(Kz.of_below (bel1 _ _)).trans k1,hfl⟩:_∧_)
  by_cases h0:c=0
  · obtain ⟨rfl,_⟩:=fl_sound hfl h0
    subst h0
    clear hs hfl k1
    go_wp2_with fail
    go_ret
    exact ⟨⟨0,0,by rw [dc_t rfl];rfl,HZ.2⟩,HZ.1⟩
  · have h0':=bne h0
    clear hs hfl k1
    go_wp2_with fail
    go_ret
    exact ⟨⟨c,f,by rw [dc_f h0];simp,HZ.2⟩,HZ.1⟩
def lenOf:Value→Nat
  | .slice _ n _=>n
  | _=>0
structure Pq (w:World) (c:Addr) (n cf:Nat) (x:Int) (F:Nat→Gv) (pre:List Nat) (v:Value) (nv:Value) (q:Nat) (K:Nat→Int) (W:World):Prop where
  kz:Kz w W
  ct:W.cell? ⟨w.heap.size,0,none⟩=some (.slice (some c) n cf)
  ca:W.cell? ⟨w.heap.size+1,0,none⟩=some (.int .i64 x)
  row:W.ownsRow (w.heap.size+2) 3 1 v pre.length (pv pre)
  nx:∀ W':World,(∀ k,k < W.heap.size→some k ≠ v.ownBlock→W'.heap[k]? = W.heap[k]?)→RowV W' nv q (fun i=>.int .i64 (K i))
theorem Pq.shape {w:World} {c:Addr} {n cf:Nat} {x:Int} {F:Nat→Gv} {pre:List Nat} {v nv:Value} {q:Nat} {K:Nat→Int} {W:World} (h:Pq w c n cf x F pre v nv q K W):∃ (ad:Option Addr) (cap:Nat),v = .slice ad pre.length cap:=by
  rcases h.row.2 with ⟨rfl,e⟩ | ⟨g,cap,cur,rfl,_⟩
  · exact ⟨none,0,by rw [show pre.length=0 from e]⟩
  · exact ⟨_,cap,rfl⟩
theorem Pq.bxs {w:World} {c:Addr} {n cf:Nat} {x:Int} {F:Nat→Gv} {pre:List Nat} {v nv:Value} {q:Nat} {K:Nat→Int} {W:World} (h:Pq w c n cf x F pre v nv q K W) (hr:∀ i,i < n→FormC w (c.add (i*9)) (F i)):Bxs W w.heap.size (w.heap.size+1) c n cf x F:=⟨h.ct,h.ca,fun i hi=>(hr i hi).kz h.kz⟩
theorem Pq.drew {w:World} {c:Addr} {n cf:Nat} {x:Int} {F:Nat→Gv} {pre:List Nat} {v nv:Value} {q:Nat} {K:Nat→Int} {W:World} (h:Pq w c n cf x F pre v nv q K W) (d:Nat):Pq w c n cf x F pre v nv q K (W.drewN d):=⟨h.kz.drewN d,h.ct,h.ca,h.row,h.nx⟩
theorem Pq.step {w : World} {c : Addr} {n cf : Nat} {x : Int} {F : Nat → Gv} {pre : List Nat} {v nv v' : Value} {q : Nat} {K : Nat → Int} {W w2 : World} {o : Obj} {i : Nat} (h : Pq w c n cf x F pre v nv q K W) (ho : w2.ownsRow (w.heap.size + 2) 3 1 v' (pre.length + 1) (pv pre ++ [.int .i64 (i : Int)])) (hg : (W.alloc o).grownBy w2 v.ownBlock) :
    Kz w w2∧w2.cell? ⟨w.heap.size,0,none⟩=some (.slice (some c) n cf)∧w2.cell? ⟨w.heap.size+1,0,none⟩=some (.int .i64 x)∧RowV w2 nv q (fun i=>.int .i64 (K i))∧w2.ownsRow (w.heap.size+2) 3 1 v' (pre ++ [i]).length (pv (pre ++ [i])):=by
  have hl:=lt_of_cell h.ca
  have hsz:=h.kz.size
  have hs2:=hg.size
  simp at hs2
  have hk:∀ k,k < W.heap.size→some k ≠ v.ownBlock→w2.heap[k]? = W.heap[k]?:=fun k h1 h2=>(hg.block k (by simp;omega) h2).trans (Below.heap_alloc _ _ _ h1)
  have hlow:∀ k,k < w.heap.size+2→w2.heap[k]? = W.heap[k]?:=fun k h1=>hk k (by omega) (fun e=>by have:=(h.row.lt k e.symm).1;omega)
  refine ⟨⟨hg.os.trans h.kz.os,hg.output.trans h.kz.output,by omega,fun k h1=>(hlow k (by omega)).trans (h.kz.block k h1)⟩,(World.cell?_of_block (hlow w.heap.size (by omega))).trans h.ct,(World.cell?_of_block (hlow (w.heap.size+1) (by omega))).trans h.ca,h.nx w2 hk,?_⟩
  have e:pv (pre ++ [i])=pv pre ++ [.int .i64 (i:Int)]:=by simp [pv]
  rw [e,List.length_append]
  exact ho
theorem rowv_blk {w W':World} {v:Value} {n:Nat} {A:Nat→Value} (h:RowV w v n A) (hb:∀ k,k < w.heap.size→W'.heap[k]? = w.heap[k]?):RowV W' v n A:=by
  obtain ⟨pa,cap,h1,h2⟩:=h
  refine ⟨pa,cap,h1,fun hn=>?_⟩
  obtain ⟨a,ha,hc,hr⟩:=h2 hn
  exact ⟨a,ha,hc,fun i hi=>(World.cell?_of_block (hb _ (lt_of_cell' (hr i hi)))).trans (hr i hi)⟩
theorem Pq.next {w:World} {c:Addr} {n cf:Nat} {x:Int} {F:Nat→Gv} {pre:List Nat} {v':Value} {w2:World} {nv:Value} {q:Nat} {K:Nat→Int} (kz:Kz w w2) (ct:w2.cell? ⟨w.heap.size,0,none⟩=some (.slice (some c) n cf)) (ca:w2.cell? ⟨w.heap.size+1,0,none⟩=some (.int .i64 x)) (row:w2.ownsRow (w.heap.size+2) 3 1 v' pre.length (pv pre)) (hr:RowV w nv q (fun i=>.int .i64 (K i))) (d:Nat):Pq w c n cf x F pre v' nv q K (w2.drewN d) :=
  ⟨kz.drewN d,ct,ca,row,fun W' hW'=>rowv_blk hr (fun k hk=>(hW' k (Nat.lt_of_lt_of_le hk kz.size) (fun e=>by have:=(row.lt k e.symm).1;omega)).trans (kz.block k hk))⟩
theorem im_path {v : Value} {n : Nat} {F : Nat → Gv} {P : List Nat} (x : Int) (w : World) (hg : Gd w) (hf : RowF w v n F) (hn : n ≤ 1048576) (hp : ∀ i, i < n → (F i).p ≤ 1048576) (hq : ∀ i, i < n → (F i).q ≤ 1048576) (hm : ∀ i, i < n → -9223372036854775808 ≤ (F i).a.m ∧ (F i).a.m ≤ 9223372036854775807) (hP : Pf F n x P) :
    Calls Tryz.prog 15 #[.agg #[v],.int .i64 x] w fun e w'=>∃ u,e = .returned u∧Got w w' P u∧Kz w w':=by
  have HSO:Hid (∀ a b:Obj,Calls Tryz.prog 43 #[.agg #[v]] ((w.alloc a).alloc b) fun e w'=>(∃ c f,e = .returned (.bool (dc (c=0)))∧Fl nmp flp F n c f)∧Kz ((w.alloc a).alloc b) w'):=(fun a b=>im_sound _ ((Kz.of_below (bel2 w a b)).gd hg) (hf.kz (.of_below (bel2 _ _ _))) hn hp hq hm:∀ a b:Obj,_)
  obtain ⟨pf,cf,rfl,hf2⟩:=hf
  have HF2:Hid ((0 < n→∃ a:Addr,pf=some a∧n≤cf∧∀ i,i < n→FormC w (a.add (i*9)) (F i))∧Pf F n x P∧∀ i,i < n→(F i).q≤1048576):=(⟨hf2,hP,hq⟩:_∧_∧_)
  obtain ⟨i0,hi0,hz0,hz1,hz2⟩:=info_parts info3
  have HI0:Hid (Tryz.prog.info? 3=some i0):=hi0
  clear hf2 hn hp hq hP hi0 hg hm
  go_enter Tryz.func15,Tryz.ntmps15
  go_wp2_with fail
  refine ((show ∀ a b:Obj,_ from HSO) _ _).mono ?_
  rintro e w1 ⟨⟨c,f,rfl,hfl⟩,k1⟩
  have B1:Kz w w1:=(Kz.of_below (bel2 w _ _)).trans k1
  have c1:w1.cell? ⟨w.heap.size,0,none⟩=some (.slice pf n cf):=(k1.cell (p:=⟨w.heap.size,0,none⟩) (by show w.heap.size < _;simp;omega)).trans (by rw [World.cell?_alloc_past _ _ _ (by simp),World.cell?_alloc_at _ _ _ _ rfl];rfl)
  have c2:w1.cell? ⟨w.heap.size+1,0,none⟩=some (.int .i64 x):=(k1.cell (p:=⟨w.heap.size+1,0,none⟩) (by show w.heap.size+1 < _;simp)).trans (by rw [World.cell?_alloc_at _ _ _ _ (by simp)];rfl)
  obtain ⟨hf2,hP,hq⟩:=(show (0 < n→∃ a:Addr,pf=some a∧n≤cf∧∀ i,i < n→FormC w (a.add (i*9)) (F i))∧Pf F n x P∧∀ i,i < n→(F i).q≤1048576 from HF2)
  clear HSO k1
  by_cases h0:c=0
  case neg =>
    rw [dc_f h0]
    have hPe:P = []:=by
      rcases hP with ⟨_,_,_,_,e⟩ | ⟨f',a',_⟩
      · exact e
      · exact absurd (Fl.uniq hfl a').1 h0
    subst hPe
    have HB1:Hid (Kz w w1):=B1
    clear hf2 hP hq HF2 hfl h0 c1 c2 B1
    go_wp2_with fail
    go_ret
    exact ⟨_,rfl,got_nil _ _,HB1⟩
  rw [dc_t h0]
  subst h0
  obtain ⟨rfl,hn0,hn3,hK⟩:=fl_sound hfl rfl
  obtain ⟨cd,rfl,hcc,hrc⟩:=hf2 hn0
  have hPt:Pt F x (fun _=>(n:Int) - 1) 1 P:=by
    rcases hP with ⟨c',f',a',b',_⟩ | ⟨f',a',b'⟩
    · exact absurd (Fl.uniq hfl a').1.symm b'
    · exact b'
  have hPl:P.length≤n:=by
    obtain ⟨xs,h1,h2⟩:=pt_ex x hK n (Nat.le_refl _) (fun _=>(n:Int) - 1) 1 (fun j _=>by omega)
    rw [hPt.uniq h1];exact h2
  have HST:Hid ((∀ i,i < n→FormC w (cd.add (i*9)) (F i))∧Kn F n∧∀ i,i < n→(F i).q≤1048576):=(⟨hrc,hK,hq⟩:_∧_∧_)
  have hnI:(n:Int)≤3000:=by omega
  have hnI0 : 0 < (n:Int):=by omega
  have hs1:=lt_of_cell c2
  have hq0:Pq w cd n cf x F [] (.slice none 0 0) (.slice (some ⟨w1.heap.size,0,none⟩) 1 1) 1 (fun _=>(n:Int) - 1) (w1.alloc (.cells #[.int .i64 ((n:Int) - 1)] 3)):=by
    refine ⟨B1.alloc _,((bel1 w1 _).cell (p:=⟨w.heap.size,0,none⟩) (lt_of_cell c1)).trans c1,((bel1 w1 _).cell (p:=⟨w.heap.size+1,0,none⟩) (lt_of_cell c2)).trans c2,World.ownsRow_nil _ _ _ _,fun W' hW'=>⟨_,_,rfl,fun _=>⟨⟨w1.heap.size,0,none⟩,rfl,Nat.le_refl _,fun i hi=>?_⟩⟩⟩
    obtain rfl:i=0:=by omega
    show W'.cell? ⟨w1.heap.size,0,none⟩ = _
    rw [World.cell?_of_block (hW' w1.heap.size (by simp) (fun e=>by cases e))]
    exact cell_new1 _ _ _
  have HG0:Hid (Pq w cd n cf x F [] (.slice none 0 0) (.slice (some ⟨w1.heap.size,0,none⟩) 1 1) 1 (fun _=>(n:Int) - 1) (w1.alloc (.cells #[.int .i64 ((n:Int) - 1)] 3))∧P = [] ++ P∧Pt F x (fun _=>(n:Int) - 1) 1 P):=(⟨hq0,rfl,hPt⟩:_∧_∧_)
  clear hf2 hP hq HF2 hfl hrc hK hPt B1 hq0 hs1 c2
  go_wp2_with fail
  clear c1
  go_loopw [5,6] (fun s5 s6 wr=>∃ (pre rest:List Nat) (q:Nat) (K:Nat→Int),q≤1048576∧Hid (Pq w cd n cf x F pre s5 s6 q K wr∧P=pre ++ rest∧Pt F x K q rest∧∀ j,j < q→0≤K j∧K j < (n:Int))) (fun s5 _ _=>P.length - lenOf s5)
  case atStart=>exact ⟨[],P,1,_,by omega,(⟨HG0.1,HG0.2.1,HG0.2.2,fun j hj=>by omega⟩:_∧_∧_∧_)⟩
  case round =>
    clear HG0
    obtain ⟨pre,rest,q,K,hqq,HI⟩:=hrel
    obtain ⟨hg,hpe,hPt,hkk⟩:=(show Pq w cd n cf x F pre u5 u6 q K wr∧P=pre ++ rest∧Pt F x K q rest∧∀ j,j < q→0≤K j∧K j < (n:Int) from HI)
    obtain ⟨ad,cap,rfl⟩:=hg.shape
    obtain ⟨hrc,hK,hq⟩:=(show (∀ i,i < n→FormC w (cd.add (i*9)) (F i))∧Kn F n∧∀ i,i < n→(F i).q≤1048576 from HST)
    have hrow:=hg.nx wr (fun _ _ _=>rfl)
    have hix:=im_ixcov (hg.bxs hrc) hrow hkk hn3 hqq
    obtain ⟨pa,ca,rfl,_⟩:=hrow
    have HQ:Hid (Pq w cd n cf x F pre (.slice ad pre.length cap) (.slice pa q ca) q K wr):=hg
    have HRS:Hid (P=pre ++ rest∧Pt F x K q rest∧∀ j,j < q→0≤K j∧K j < (n:Int)):=(⟨hpe,hPt,hkk⟩:_∧_∧_)
    clear HI hg hpe hPt hkk hrc hK hq
    go_wp2_with fail
    refine hix.mono ?_
    rintro e w2 ⟨⟨r,rfl,hr⟩,d,rfl⟩
    clear hix
    obtain ⟨hpe,hPt,hkk⟩:=(show P=pre ++ rest∧Pt F x K q rest∧∀ j,j < q→0≤K j∧K j < (n:Int) from HRS)
    have hg:=(show Pq w cd n cf x F pre (.slice ad pre.length cap) (.slice pa q ca) q K wr from HQ).drew d
    obtain ⟨WD,hWD⟩:∃ WD,WD=wr.drewN d:=⟨_,rfl⟩
    rw [← hWD] at hg ⊢
    clear hWD
    rcases hr with ⟨j,rfl,hh⟩ | ⟨rfl,hno⟩
    case inr =>
      have hre:=hPt.none hno
      subst hre
      rw [List.append_nil] at hpe
      subst hpe
      have HX:Hid (Got w WD P (.slice ad P.length cap)∧Kz w WD):=(⟨got_of (w:=w) hg.row (by omega),hg.kz⟩:_∧_)
      clear hg hPt hkk HST HQ HRS hno
      go_wp2_with fail
      go_ret
      exact ⟨_,rfl,HX.1,HX.2⟩
    obtain ⟨rest',hre,hPt'⟩:=hPt.hit hh
    have hkj:=hkk j hh.1
    obtain ⟨kk,hkk2⟩:∃ kk:Nat,K j=(kk:Int):=⟨(K j).toNat,by omega⟩
    rw [hkk2,Int.toNat_natCast] at hre hPt'
    have hkN:kk < n:=by omega
    have hkI:(kk:Int) < (n:Int):=by omega
    have hjq:j < q:=hh.1
    have hjI:(j:Int) < (q:Int):=by omega
    have hj0:¬ (j:Int) < 0:=by omega
    obtain ⟨pa0,ca0,hpe0,hr2⟩:=hg.nx WD (fun _ _ _=>rfl)
    obtain ⟨b,hb,hcb,hrb⟩:=hr2 (by omega)
    simp only [Value.slice.injEq,true_and] at hpe0
    obtain ⟨rfl,rfl⟩:=hpe0
    subst hb
    have qa:WD.cell? (b.add j)=some (.int .i64 (K j)):=hrb j hjq
    rw [hkk2] at qa
    obtain ⟨hrc,hK,hq⟩:=(show (∀ i,i < n→FormC w (cd.add (i*9)) (F i))∧Kn F n∧∀ i,i < n→(F i).q≤1048576 from HST)
    obtain ⟨vn2,vk2,hc9,_,hrk2⟩:=hrc kk hkN
    have hrkw:=hrk2
    obtain ⟨pk2,ck2,rfl,_⟩:=hrk2
    have hpl:pre.length+1≤3000∧(pre.length+1)+rest'.length=P.length:=by
      have:=congrArg List.length hpe
      rw [hre,List.length_append,List.length_cons] at this
      omega
    have hpl1:=hpl.1
    have hpl2:=hpl.2
    have HSTP : Hid (∀ (v' : Value) (w3 : World), w3.ownsRow (w.heap.size + 2) 3 1 v' (pre.length + 1) (pv pre ++ [.int .i64 (kk : Int)]) → (WD.alloc (.cells #[.int .i64 (kk : Int)] 3)).grownBy w3 (Value.slice ad pre.length cap).ownBlock →
        w3.cell? ⟨w.heap.size,0,none⟩=some (.slice (some cd) n cf)∧w3.cell? (b.add j)=some (.int .i64 (kk:Int))∧w3.cell? ⟨(cd.add (kk*9)).block,(cd.add (kk*9)).off+8,none⟩=some (.slice pk2 (F kk).q ck2)∧∀ d,Pq w cd n cf x F (pre ++ [kk]) v' (.slice pk2 (F kk).q ck2) (F kk).q (F kk).K (w3.drewN d)):=(fun v' w3 ho hgr=>by
      obtain ⟨s1,s2,s3,s4,s5⟩:=hg.step ho hgr
      obtain ⟨pa1,ca1,hpe1,hr3⟩:=s4
      obtain ⟨b1,hb1,_,hrb1⟩:=hr3 (by omega)
      simp only [Value.slice.injEq,true_and] at hpe1
      obtain ⟨e1,_⟩:=hpe1
      rw [hb1] at e1
      obtain rfl:=Option.some.inj e1
      refine ⟨s2,by have q1:w3.cell? (b.add j)=some (.int .i64 (K j)):=hrb1 j hjq;rw [hkk2] at q1;exact q1,(hc9.kz s1).c8,fun d=>Pq.next s1 s2 s3 s5 hrkw d⟩:∀ (v':Value) (w3:World),_)
    have howna:∀ o:Obj,(WD.alloc o).ownsRow (w.heap.size+2) 3 1 (.slice ad pre.length cap) pre.length (pv pre):=fun o=>hg.row.alloc o
    have hqc:=qr_cells WD #[.int .i64 (kk:Int)] 3 [.int .i64 (kk:Int)] rfl
    have h1c:∀ u ∈ [(.int .i64 (kk:Int):Value)],u.oneCell'=true:=by intro u hu;simp at hu;subst hu;rfl
    have hbs:w.heap.size+2≤WD.heap.size:=by have:=lt_of_cell hg.ca;omega
    have HRE:Hid (P=(pre ++ [kk]) ++ rest'∧Pt F x (F kk).K (F kk).q rest'∧∀ j,j < (F kk).q→0≤(F kk).K j∧(F kk).K j < (n:Int)):=(⟨by rw [hpe,hre,List.append_assoc];rfl,hPt',fun m hm=>by have:=hK kk hkN m hm;omega⟩:_∧_∧_)
    have hqk:=hq kk hkN
    clear hg hpe hPt hkk hrc hK hq HQ HRS hre hPt' hh hkj hkk2 hr2 hrb hrkw hc9 hpl HST
    go_wp2_with (at_builtin;refine wpList_append_own _ rfl (.tmp 22) (.tmp 27) 36 rfl (w.heap.size+2) 3 i0 (.int .i64 0) 1 8 Tryz.underlying36 HI0 hz0 hz1 hz2 rfl (by decide) _ _ _ rfl (howna _) ⟨WD.heap.size,0,none⟩ 1 1 [.int .i64 (kk:Int)] rfl rfl hqc h1c (by unfold maxLen;omega) (by omega) (by simp;omega) ?_;intro v' w3 hown1 hgrow1 _;obtain ⟨g',cap',rfl,_,_⟩:=hown1.form (by omega);obtain ⟨d1,d2,d3,hfin⟩:=(show ∀ (v':Value) (w3:World),_ from HSTP) _ _ hown1 hgrow1;have HN:Hid (∀ d,Pq w cd n cf x F (pre ++ [kk]) (.slice (some ⟨g',0,none⟩) (pre.length+1) cap') (.slice pk2 (F kk).q ck2) (F kk).q (F kk).K (w3.drewN d)):=hfin;clear hfin HSTP hown1 hgrow1 howna hqc h1c qa)
    go_quiet (skip)
    clear d1 d2 d3
    go_wp2_with fail
    go_roundw
    case rel=>exact ⟨pre ++ [kk],rest',(F kk).q,(F kk).K,hqk,(⟨(show ∀ d,_ from HN) _,HRE.1,HRE.2.1,HRE.2.2⟩:_∧_∧_∧_)⟩
    case measure=>simp [lenOf];omega
theorem first_or (Q:Nat→Prop):∀ n,(∃ i,i < n∧(∀ j,j < i→Q j)∧¬ Q i)∨∀ j,j < n→Q j:=by
  intro n
  induction n with
  | zero=>exact .inr (fun j hj=>by omega)
  | succ n ih =>
    rcases ih with ⟨i,h1,h2⟩ | h
    · exact .inl ⟨i,by omega,h2⟩
    · rcases Classical.em (Q n) with g | g
      · refine .inr (fun j hj=>?_)
        by_cases e:j=n
        · rw [e];exact g
        · exact h j (by omega)
      · exact .inl ⟨n,by omega,h,g⟩
theorem fl_ex2 (F:Nat→Gv) (n:Nat):∃ c f,Fl nmp flp F n c f:=by
  by_cases h0:n=0∨3000 < n∨(0 < n∧(F (n - 1)).a.k ≠ 1)
  · exact ⟨_,_,.none0 h0⟩
  · have a1 : 0 < n:=by omega
    have a2:n≤3000:=by omega
    have a3:(F (n - 1)).a.k=1:=by
      rcases Classical.em ((F (n - 1)).a.k=1) with e | e
      · exact e
      · exact absurd (Or.inr (Or.inr ⟨a1,e⟩)) h0
    rcases first_or (ndk nmp flp F) n with ⟨i,b1,b2,b3⟩ | b
    · exact ⟨_,_,.shape i a1 a2 a3 b1 b2 b3⟩
    · rcases first_or (fun k=>szl F n k ≠ 0) n with ⟨i,c1,c2,c3⟩ | c
      · exact ⟨_,_,.order i a1 a2 a3 b c1 c2 (Classical.not_not.1 c3)⟩
      · by_cases d:szl F n (n - 1)=(n:Int)
        · rcases first_or (fun k=>dpr F n n k≤100) n with ⟨i,e1,e2,e3⟩ | e
          · exact ⟨_,_,.depth i a1 a2 a3 b c d e1 e2 (by omega)⟩
          · exact ⟨_,_,.sound a1 a2 a3 b c d e⟩
        · exact ⟨_,_,.whole a1 a2 a3 b c d⟩
theorem pf_ex (F:Nat→Gv) (n:Nat) (x:Int):∃ P,Pf F n x P∧P.length≤3000:=by
  obtain ⟨c,f,h⟩:=fl_ex2 F n
  by_cases h0:c=0
  · subst h0
    obtain ⟨_,hn,h3,hK⟩:=fl_sound h rfl
    obtain ⟨xs,h1,h2⟩:=pt_ex x hK n (Nat.le_refl _) (fun _=>(n:Int) - 1) 1 (fun j _=>by omega)
    exact ⟨xs,.inr ⟨f,h,h1⟩,by omega⟩
  · exact ⟨[],.inl ⟨c,f,h,h0,rfl⟩,by simp⟩
structure Ky (S:Nat→Prop) (a w:World):Prop where
  os:w.os=a.os
  output:w.output=a.output
  size:a.heap.size≤w.heap.size
  block:∀ k,k < a.heap.size→¬ S k→w.heap[k]? = a.heap[k]?
theorem Ky.of_kz {S:Nat→Prop} {a w:World} (h:Kz a w):Ky S a w:=⟨h.os,h.output,h.size,fun k hk _=>h.block k hk⟩
theorem Ky.of_kq {S T:Nat→Prop} {a w:World} (h:Kq S a w) (hs:∀ k,S k→T k):Ky T a w:=⟨h.os,h.output,h.size,fun k hk hn=>h.block k hk (fun f=>hn (hs k f))⟩
theorem Ky.trans {S:Nat→Prop} {a b c:World} (h:Ky S a b) (k:Ky S b c):Ky S a c:=⟨k.os.trans h.os,k.output.trans h.output,Nat.le_trans h.size k.size,fun i hi hn=>(k.block i (Nat.lt_of_lt_of_le hi h.size) hn).trans (h.block i hi hn)⟩
theorem Ky.kz {S:Nat→Prop} {w a b:World} (h:Kz w a) (k:Ky S a b) (hs:∀ i,S i→w.heap.size≤i):Kz w b:=⟨k.os.trans h.os,k.output.trans h.output,Nat.le_trans h.size k.size,fun i hi=>(k.block i (Nat.lt_of_lt_of_le hi h.size) (fun f=>by have:=hs i f;omega)).trans (h.block i hi)⟩
theorem Ky.cell {S:Nat→Prop} {a w:World} (h:Ky S a w) {b o:Nat} {v:Value} (hc:a.cell? ⟨b,o,none⟩=some v) (hs:¬ S b):w.cell? ⟨b,o,none⟩=some v:=(World.cell?_of_block (h.block b (lt_of_cell hc) hs)).trans hc
theorem Ky.own {S:Nat→Prop} {a w:World} (h:Ky S a w) {v:Value} {g n:Nat} {A:Nat→Value} (ho:OwnR a v g n A) (hs : 0 < n→¬ S g):OwnR w v g n A :=
  ho.block (fun hn=>h.block g (lt_of_cell (ho.cell 0 hn)) (hs hn))
theorem law_path {pa : Option Addr} {ca n : Nat} {F : Nat → Gv} (x : Int) (w : World) (hg : Gd w) (ha : RowF w (.slice pa n ca) n F) (hn : (n : Int) < 140737488355328)
    (hF:∀ i,i < n→((F i).a.x.size:Int) < 140737488355328∧((F i).p:Int) < 140737488355328∧(∀ j,j < (F i).p→(((F i).A j).size:Int) < 140737488355328)∧((F i).q:Int) < 140737488355328)
    (hm:∀ i,i < n → -9223372036854775808≤(F i).a.m∧(F i).a.m≤9223372036854775807) :
    Calls Tryz.prog 4 #[.agg #[.slice pa n ca],.int .i64 x] w fun e w'=>e = .returned (.bool true)∧Rd.Kept w w':=by
  obtain ⟨P,hP,hPl⟩:=pf_ex F n x
  have HSZ:Hid (∀ o:Obj,Calls Tryz.prog 8 #[.agg #[.slice pa n ca],.int .i64 1048576] (w.alloc o) fun e w'=>∃ r:Int,e = .returned (.int .i64 r)∧(0≤r→(n:Int)+(smr F n:Int)≤1048576) ∧ -1≤r∧r≤1048576∧Below (w.alloc o).heap.size (w.alloc o) w'):=(fun o=>sz_sheet (w.alloc o) (ha.below (bel1 _ _)) hn hF:∀ o:Obj,_)
  have HA:Hid (RowF w (.slice pa n ca) n F∧Gd w∧(∀ i,i < n → -9223372036854775808≤(F i).a.m∧(F i).a.m≤9223372036854775807)∧Pf F n x P∧P.length≤1048576):=(⟨ha,hg,hm,hP,by omega⟩:_∧_∧_∧_∧_)
  clear ha hn hF hg hm hP hPl
  go_enter Tryz.func4,Tryz.ntmps4
  go_wp2_with fail
  refine ((show ∀ o:Obj,_ from HSZ) _).mono ?_
  rintro e w1 ⟨r,rfl,hr1,hr2,hr3,hb1⟩
  clear HSZ
  have B1:Kz w w1:=.of_below ((bel1 w _).trans (hb1.mono (by simp)))
  rcases Int.lt_or_le r 0 with h | h
  · have HB:Hid (Kz w w1):=B1
    clear B1 hb1 hr1 HA
    go_wp2_with fail
    go_ret
    exact ⟨rfl,(show Kz w w1 from HB).kept⟩
  · have h':¬ r < 0:=by omega
    have hsum:n+smr F n≤1048576:=by have:=hr1 h;omega
    have HS:Hid (n+smr F n≤1048576):=hsum
    have c0:w1.cell? ⟨w.heap.size,0,none⟩=some (.slice pa n ca):=cell_keepz (.of_below hb1) (cell_new1 w _ 24)
    have HK1:Hid (Kz w w1∧w1.cell? ⟨w.heap.size,0,none⟩=some (.slice pa n ca)):=(⟨B1,c0⟩:_∧_)
    clear hr1 hsum hb1 B1
    go_wp2_with fail
    refine (to_sheet w1 (HA.1.kz HK1.1) HS).mono ?_
    rintro e w2 ⟨v1,g1,t1,rfl,o1,hb2⟩
    have k2:Kz w1 w2:=.of_below hb2
    have HK2:Hid (Kz w w2∧w2.cell? ⟨w.heap.size,0,none⟩=some (.slice pa n ca)∧RowF w2 v1 n F):=(⟨HK1.1.trans k2,cell_keepz k2 HK1.2,o1.row⟩:_∧_∧_)
    obtain ⟨p1,q1,rfl,_⟩:=o1.sl
    clear c0 HK1 o1 hb2 k2
    go_wp2_with fail
    refine (sp_path x w2 HK2.2.2 (by have:=(show n+smr F n≤1048576 from HS);omega) (smr_p HS).1 (smr_p HS).2 HA.2.2.2.1).mono ?_
    rintro e w3 ⟨uw,rfl,⟨gw,hgw1,hgw2⟩,hb3⟩
    have k3:Kz w2 w3:=.of_below hb3
    have HK3:Hid (Kz w w3∧w3.cell? ⟨w.heap.size,0,none⟩=some (.slice pa n ca)∧OwnR w3 uw gw P.length (fun i=>.int .i64 (pa' P i))∧(0 < P.length→gw < w3.heap.size)∧w.heap.size < w3.heap.size):=(⟨HK2.1.trans k3,cell_keepz k3 HK2.2.1,hgw1,fun hp=>(hgw2 hp).2,lt_of_cell (cell_keepz k3 HK2.2.1)⟩:_∧_∧_∧_∧_)
    obtain ⟨pw,kw,rfl,_⟩:=hgw1.sl
    have c0:w3.cell? ⟨w.heap.size,0,none⟩=some (.slice pa n ca):=HK3.2.1
    clear HK2 hgw1 hgw2 hb3 k3
    go_wp2_with fail
    refine (to_sheet w3 (HA.1.kz HK3.1) HS).mono ?_
    rintro e w4 ⟨vx,gx,tx',rfl,ox,hb4⟩
    obtain ⟨px,kx,rfl,_⟩:=ox.sl
    have k4:Kz w3 w4:=.of_below hb4
    obtain ⟨W5,hW5⟩:∃ W5,W5=w4.alloc (.cells #[.slice px n kx] 31):=⟨_,rfl⟩
    have k5:Kz w4 W5:=by rw [hW5];exact .of_below (bel1 _ _)
    have z5:W5.heap.size=w4.heap.size+1:=by rw [hW5];simp
    have k35:=k4.trans k5
    have o3:=(show Kz w w3∧w3.cell? ⟨w.heap.size,0,none⟩=some (.slice pa n ca)∧OwnR w3 (.slice pw P.length kw) gw P.length (fun i=>.int .i64 (pa' P i))∧(0 < P.length→gw < w3.heap.size)∧w.heap.size < w3.heap.size from HK3)
    have HK5:Hid (Kz w W5∧W5.cell? ⟨w.heap.size,0,none⟩=some (.slice pa n ca)∧OwnR W5 (.slice pw P.length kw) gw P.length (fun i=>.int .i64 (pa' P i))∧(0 < P.length→gw < w3.heap.size)∧w.heap.size < w3.heap.size∧OwnF W5 (.slice px n kx) gx n F tx' w3.heap.size w4.heap.size∧W5.cell? ⟨w4.heap.size,0,none⟩=some (.slice px n kx)∧W5.heap.size=w4.heap.size+1∧w3.heap.size≤w4.heap.size) :=
      (⟨o3.1.trans k35,cell_keepz k35 o3.2.1,(Ky.of_kz (S:=fun _=>False) k35).own o3.2.2.1 (fun _ f=>f),o3.2.2.2.1,o3.2.2.2.2,ox.keep (fun b _ _ h3=>k5.block b h3),by rw [hW5];exact cell_new1 _ _ _,z5,k4.size⟩:_∧_∧_∧_∧_∧_∧_∧_∧_)
    clear HK3 ox hb4 k4 k5 k35 z5 o3 c0
    go_wp2_with fail
    rw [← hW5]
    clear hW5
    refine (im_path x W5 (HK5.1.gd HA.2.1) HK5.2.2.2.2.2.1.row (by have:=(show n+smr F n≤1048576 from HS);omega) (smr_p HS).1 (smr_p HS).2 HA.2.2.1 HA.2.2.2.1).mono ?_
    rintro e w6 ⟨ug,rfl,⟨gg,hgg1,hgg2⟩,k6⟩
    obtain ⟨pg,kg,rfl,_⟩:=hgg1.sl
    have HSD:Hid (∀ k,((w3.heap.size≤k∧k < w4.heap.size)∨(0 < P.length∧k=gg))→w.heap.size≤k∧k ≠ w.heap.size∧k ≠ w4.heap.size∧(0 < P.length→k ≠ gw)):=(fun k hk=>by
      have y1:=HK5.2.2.2.1
      have y2:=HK5.2.2.2.2.1
      have y3:=HK5.2.2.2.2.2.2.2.1
      have y4:=HK5.2.2.2.2.2.2.2.2
      rcases hk with hk | ⟨hp,rfl⟩
      · exact ⟨by omega,by omega,by omega,fun hp=>by have:=y1 hp;omega⟩
      · have:=hgg2 hp
        exact ⟨by omega,by omega,by omega,fun hp=>by have:=y1 hp;omega⟩:∀ k,_)
    have HK6:Hid (Kz w w6∧w6.cell? ⟨w.heap.size,0,none⟩=some (.slice pa n ca)∧OwnR w6 (.slice pw P.length kw) gw P.length (fun i=>.int .i64 (pa' P i))∧OwnR w6 (.slice pg P.length kg) gg P.length (fun i=>.int .i64 (pa' P i))∧OwnF w6 (.slice px n kx) gx n F tx' w3.heap.size w4.heap.size∧w6.cell? ⟨w4.heap.size,0,none⟩=some (.slice px n kx)∧w4.heap.size < w6.heap.size∧(0 < P.length→w4.heap.size < gg)) :=
      (⟨HK5.1.trans k6,cell_keepz k6 HK5.2.1,(Ky.of_kz (S:=fun _=>False) k6).own HK5.2.2.1 (fun _ f=>f),hgg1,HK5.2.2.2.2.2.1.keep (fun b _ _ h3=>k6.block b h3),cell_keepz k6 HK5.2.2.2.2.2.2.1,by have:=k6.size;have:=HK5.2.2.2.2.2.2.2.1;omega,fun hp=>by have:=(hgg2 hp).1;have:=HK5.2.2.2.2.2.2.2.1;omega⟩:_∧_∧_∧_∧_∧_∧_∧_)
    clear HK5 hgg1 hgg2 k6
    go_wp2_with fail
    refine (eq_ints w6 HK6.2.2.2.1.row HK6.2.2.1.row HA.2.2.2.2).mono ?_
    rintro e w7 ⟨rfl,d7,rfl⟩
    obtain ⟨W7,hW7⟩:∃ W7,W7=w6.drewN d7:=⟨_,rfl⟩
    have k7:Kz w6 W7:=by rw [hW7];exact (Kz.refl _).drewN _
    rw [← hW7]
    have HK7:Hid (Kz w6 W7):=k7
    clear hW7
    have c5:W7.cell? ⟨w4.heap.size,0,none⟩=some (.slice px n kx):=cell_keepz k7 HK6.2.2.2.2.2.1
    have c0:W7.cell? ⟨w.heap.size,0,none⟩=some (.slice pa n ca):=cell_keepz k7 HK6.2.1
    have HTO:Hid (∀ W,Kz W7 W→Calls Tryz.prog 10 #[.agg #[.slice pa n ca]] W fun e w'=>∃ v g t,e = .returned (.agg #[v])∧OwnF w' v g n F t W.heap.size w'.heap.size∧Below W.heap.size W w'):=(fun W hb=>to_sheet W (HA.1.kz ((HK6.1.trans HK7).trans hb)) HS:∀ W,_)
    have HEQ:Hid (∀ W v2,Kz W7 W→RowF W v2 n F→Calls Tryz.prog 13 #[.agg #[.slice px n kx],.agg #[v2]] W fun e w'=>e = .returned (.bool true)∧Below W.heap.size W w'):=(fun W v2 hb h2=>eq_sheet W (HK6.2.2.2.2.1.row.kz ((show Kz w6 W7 from HK7).trans hb)) h2 HS:∀ W v2,_)
    have HC5:Hid (∀ W,Kz W7 W→W.cell? ⟨w4.heap.size,0,none⟩=some (.slice px n kx)∧W.cell? ⟨w.heap.size,0,none⟩=some (.slice pa n ca)):=(fun W hb=>⟨cell_keepz hb c5,cell_keepz hb c0⟩:∀ W,_)
    clear k7
    go_wp2_with fail
    go_region_held_law (fun W'=>W'.cell? ⟨w4.heap.size,0,none⟩=some (.slice px n kx)∧W'.cell? ⟨w.heap.size,0,none⟩=some (.slice pa n ca)) (first | exact s11 | exact s10 | exact ⟨c5,c0⟩)
      (first
        | (go_at_call 10;refine ((show ∀ W,Kz W7 W→_ from HTO) _ (by exact Kz.drewN (Kz.refl _) 1)).mono ?_;rintro e w8 ⟨v2,g2,t2,rfl,o2,hb10⟩;have K10:Kz W7 w8:=⟨hb10.os,hb10.output,hb10.size,hb10.block⟩;have s10:=(show ∀ W,Kz W7 W→_ from HC5) w8 K10)
        | (go_at_call 13;refine ((show ∀ W v2,_ from HEQ) _ _ K10 o2.row).mono ?_;rintro e w9 ⟨rfl,hb11⟩;have K11:Kz W7 w9:=K10.trans (.of_below hb11);have s11:=(show ∀ W,Kz W7 W→_ from HC5) w9 K11))
    have k9:Kz w6 w9:=(show Kz w6 W7 from HK7).trans K11
    have HK9:Hid (Kz w6 w9):=k9
    clear c5 c0 HC5 HEQ HTO o2 hb10 K10 s10 hb11 K11 s11 HK7
    have c5:w9.cell? ⟨w4.heap.size,0,none⟩=some (.slice px n kx):=cell_keepz k9 HK6.2.2.2.2.2.1
    have HMK:Hid (Calls Tryz.prog 17 #[.agg #[.slice px n kx],.int .i64 1] w9 fun e w'=>e = .returned (.int .i64 (kst F 1 n:Int))∧Kq (fun b=>w3.heap.size≤b∧b < w4.heap.size) w9 w'∧OwnF w' (.slice px n kx) gx n (mkf F 1) tx' w3.heap.size w4.heap.size):=mark_sheet w9 (HK6.2.2.2.2.1.keep (fun b _ _ h3=>k9.block b h3)) HS (by have:=k9.size;have:=HK6.2.2.2.2.2.2.1;omega)
    clear k9
    go_wp2_with fail
    refine (show Calls Tryz.prog 17 #[.agg #[.slice px n kx],.int .i64 1] w9 _ from HMK).mono ?_
    rintro e w10 ⟨rfl,hq10,_⟩
    obtain ⟨S,hS⟩:∃ S:Nat→Prop,S=fun k=>(w3.heap.size≤k∧k < w4.heap.size)∨(0 < P.length∧k=gg):=⟨_,rfl⟩
    have y10:Ky S w6 w10:=(Ky.of_kz HK9).trans (Ky.of_kq hq10 (fun k hk=>by rw [hS];exact .inl hk))
    have ow10:OwnR w10 (.slice pw P.length kw) gw P.length (fun i=>.int .i64 (pa' P i)):=y10.own HK6.2.2.1 (fun hp f=>by rw [hS] at f;exact ((show ∀ k,_→_ from HSD) gw f).2.2.2 hp rfl)
    have og10:OwnR w10 (.slice pg P.length kg) gg P.length (fun i=>.int .i64 (pa' P i)):=((Ky.of_kz (S:=fun k=>w3.heap.size≤k∧k < w4.heap.size) HK9).trans (Ky.of_kq hq10 (fun k hk=>hk))).own HK6.2.2.2.1 (fun hp f=>by have:=HK6.2.2.2.2.2.2.2 hp;omega)
    have HK10:Hid (Ky S w6 w10∧OwnR w10 (.slice pw P.length kw) gw P.length (fun i=>.int .i64 (pa' P i))∧OwnR w10 (.slice pg P.length kg) gg P.length (fun i=>.int .i64 (pa' P i))):=(⟨y10,ow10,og10⟩:_∧_∧_)
    have HSS:Hid (S=fun k=>(w3.heap.size≤k∧k < w4.heap.size)∨(0 < P.length∧k=gg)):=hS
    clear hq10 y10 ow10 og10 HMK c5 HK9 hS
    obtain ⟨kk,hkk⟩:∃ kk,kk=kst F 1 n:=⟨_,rfl⟩
    rw [← hkk]
    clear hkk
    have hkn:¬ ((kk:Int) < 0):=by omega
    go_wp2_with fail
    refine (eq_ints w10 HK10.2.2.row HK10.2.1.row HA.2.2.2.2).mono ?_
    rintro e w11 ⟨rfl,d11,rfl⟩
    have HMK:Hid (Calls Tryz.prog 18 #[.slice pg P.length kg,.int .i64 1] (w10.drewN d11) fun e w'=>e = .returned (.int .i64 (1+(P.length:Int)))∧Kq (fun j=>0 < P.length∧j=gg) (w10.drewN d11) w'∧OwnR w' (.slice pg P.length kg) gg P.length (fun i=>.int .i64 (1+(i:Int)))):=mark_ints (w10.drewN d11) 1 ⟨HK10.2.2.sl,HK10.2.2.cell,HK10.2.2.fz⟩ HA.2.2.2.2 (by omega) (by omega)
    go_wp2_with fail
    refine (show Calls Tryz.prog 18 #[.slice pg P.length kg,.int .i64 1] (w10.drewN d11) _ from HMK).mono ?_
    rintro e w12 ⟨rfl,hq12,og12⟩
    have y12:Ky S w6 w12:=HK10.1.trans ((Ky.of_kz ((Kz.refl w10).drewN d11)).trans (Ky.of_kq hq12 (fun k hk=>by rw [show S = _ from HSS];exact .inr hk)))
    have ow12:OwnR w12 (.slice pw P.length kw) gw P.length (fun i=>.int .i64 (pa' P i)):=y12.own HK6.2.2.1 (fun hp f=>by rw [show S = _ from HSS] at f;exact ((show ∀ k,_→_ from HSD) gw f).2.2.2 hp rfl)
    have k12:Kz w w12:=Ky.kz HK6.1 y12 (fun i hi=>by rw [show S = _ from HSS] at hi;exact ((show ∀ k,_→_ from HSD) i hi).1)
    have cz12:w12.cell? ⟨w.heap.size,0,none⟩=some (.slice pa n ca):=y12.cell HK6.2.1 (fun hi=>by rw [show S = _ from HSS] at hi;exact ((show ∀ k,_→_ from HSD) _ hi).2.1 rfl)
    have HK12:Hid (Kz w w12∧w12.cell? ⟨w.heap.size,0,none⟩=some (.slice pa n ca)∧OwnR w12 (.slice pw P.length kw) gw P.length (fun i=>.int .i64 (pa' P i))∧OwnR w12 (.slice pg P.length kg) gg P.length (fun i=>.int .i64 (1+(i:Int)))):=(⟨k12,cz12,ow12,og12⟩:_∧_∧_∧_)
    clear hq12 og12 y12 ow12 k12 cz12 HMK HK10 HSS HSD HK6
    obtain ⟨mm,hmm⟩:∃ mm,mm=1+(P.length:Int):=⟨_,rfl⟩
    have hmn:¬ mm < 0:=by omega
    have HHE:Hid (∀ W,Kz w12 W→Calls Tryz.prog 19 #[.slice pg P.length kg,.int .i64 1] W fun e w'=>e = .returned (.int .i64 mm)∧∃ d,w'=W.drewN d):=(fun W hb=>by rw [hmm];exact held_ints W 1 ((Ky.of_kz (S:=fun _=>False) hb).own HK12.2.2.2 (fun _ f=>f)).row HA.2.2.2.2 (by omega) (by omega):∀ W,_)
    rw [← hmm]
    clear hmm
    go_wp2_with fail
    refine ((show ∀ W,Kz w12 W→_ from HHE) w12 (Kz.refl _)).mono ?_
    rintro e w13' ⟨rfl,d13,rfl⟩
    obtain ⟨w13,hw13⟩:∃ w13,w13=w12.drewN d13:=⟨_,rfl⟩
    have k13:Kz w12 w13:=by rw [hw13];exact (Kz.refl _).drewN _
    rw [← hw13]
    have c0:w13.cell? ⟨w.heap.size,0,none⟩=some (.slice pa n ca):=cell_keepz k13 HK12.2.1
    have HK13:Hid (Kz w12 w13):=k13
    clear hw13 k13
    go_wp2_with fail
    refine (to_sheet w13 (HA.1.kz (HK12.1.trans HK13)) HS).mono ?_
    rintro e w14 ⟨vy,gy,ty,rfl,oy,hb14⟩
    obtain ⟨py,ky,rfl,_⟩:=oy.sl
    have k14:Kz w12 w14:=(show Kz w12 w13 from HK13).trans (.of_below hb14)
    have HK14:Hid (Kz w12 w14∧RowF w14 (.slice py n ky) n F):=(⟨k14,oy.row⟩:_∧_)
    clear hb14 oy c0 k14 HK13
    go_wp2_with fail
    refine (im_path x w14 ((HK12.1.trans HK14.1).gd HA.2.1) HK14.2 (by have:=(show n+smr F n≤1048576 from HS);omega) (smr_p HS).1 (smr_p HS).2 HA.2.2.1 HA.2.2.2.1).mono ?_
    rintro e w15 ⟨uh,rfl,⟨gh,hgh1,_⟩,k15⟩
    obtain ⟨ph,kh,rfl,_⟩:=hgh1.sl
    have k15':Kz w12 w15:=HK14.1.trans k15
    have HK15:Hid (Kz w12 w15∧RowV w15 (.slice ph P.length kh) P.length (fun i=>.int .i64 (pa' P i))∧RowV w15 (.slice pw P.length kw) P.length (fun i=>.int .i64 (pa' P i))):=(⟨k15',hgh1.row,((Ky.of_kz (S:=fun _=>False) k15').own HK12.2.2.1 (fun _ f=>f)).row⟩:_∧_∧_)
    clear hgh1 k15 k15' HK14
    go_wp2_with fail
    refine (eq_ints w15 HK15.2.1 HK15.2.2 HA.2.2.2.2).mono ?_
    rintro e w16 ⟨rfl,d16,rfl⟩
    have HK16:Hid (Kz w12 (w15.drewN d16)):=HK15.1.drewN _
    clear HK15
    go_wp2_with fail
    refine ((show ∀ W,Kz w12 W→_ from HHE) (w15.drewN d16) HK16).mono ?_
    rintro e w17 ⟨rfl,d17,rfl⟩
    have HB17:Hid (Kz w ((w15.drewN d16).drewN d17)):=(HK12.1.trans HK16).drewN _
    clear HHE HK12 HK16
    go_wp2_with fail
    go_ret
    exact ⟨rfl,(show Kz w _ from HB17).kept⟩
end Go.Proofs.YtomcmnompajnlaaGreatDoor.Fo
