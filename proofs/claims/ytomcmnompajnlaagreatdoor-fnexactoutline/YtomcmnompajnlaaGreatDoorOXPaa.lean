import Derived.Test.YtomcmnompajnlaaGreatDoorBSpy
import Derived.Test.YtomcmnompajnlaaGreatDoorCSkt
import Derived.Test.YtomcmnompajnlaaGreatDoorBSpf
import Derived.Test.YtomcmnompajnlaaGreatDoorBSpe
import Derived.Test.YtomcmnompajnlaaGreatDoorBTud
import Derived.Test.YtomcmnompajnlaaGreatDoorBSkm
import Derived.Test.YtomcmnompajnlaaGreatDoorCSko
import Derived.Test.YtomcmnompajnlaaGreatDoorCSkxd
import Derived.Test.YtomcmnompajnlaaGreatDoorBBab
import Derived.Test.YtomcmnompajnlaaGreatDoorCSkf
import Derived.Test.YtomcmnompajnlaaGreatDoorCSka
import Derived.Test.YtomcmnompajnlaaGreatDoorCBaf
import Derived.Test.YtomcmnompajnlaaGreatDoorOXBab
import Derived.Deep.Slices
import Derived.SizedLaws
import Derived.Carry
import Derived.Deep.QuietTactic
import Derived.BigQuiet
import Derived.Test.YtomcmnompajnlaaGreatDoorCSkg
import Derived.Test.YtomcmnompajnlaaGreatDoorCSkxb
import Derived.Test.YtomcmnompajnlaaGreatDoorBTkc
import Derived.Test.YtomcmnompajnlaaGreatDoorBSdj
import Derived.Test.YtomcmnompajnlaaGreatDoorBSdd
import Derived.Test.YtomcmnompajnlaaGreatDoorBSbk
import Derived.Test.YtomcmnompajnlaaGreatDoorBSda
import Derived.Test.YtomcmnompajnlaaGreatDoorBScc
import Derived.Test.YtomcmnompajnlaaGreatDoorBSbd
import Derived.Test.YtomcmnompajnlaaGreatDoorBRab
import Derived.Test.YtomcmnompajnlaaGreatDoorBShc
import Derived.Test.YtomcmnompajnlaaGreatDoorBQua
import Derived.Test.YtomcmnompajnlaaGreatDoorProg
import GoSem.Claim
import GoSem.ClaimJoined
import GoSem.ClaimMapViews
import Derived.JoinedTies
import Derived.KernelRfl
import Derived.WalkKit
import Derived.ProofKit
import Derived.OpenShut
import Derived.Handy
import Derived.Laws.Strings3
import Derived.Lib.Strings
import Derived.Laws.OwnMore
import Derived.Laws.IdiomStrings
import Derived.Lib.UnsafeStr
import Derived.Deep.AppendLies
import Derived.Deep.MidRow
import Derived.Shelf.Strconv.Clone
import Derived.Lib.ConvBytes
import Derived.Lib.AtoiErrMem
import Derived.Lib.AtoiAllMem
import Derived.Laws.Closers25
import Derived.Laws.Closers25b
import Derived.BigCall
import Derived.BigGuard
import Derived.Lib.IfaceNeq
import Derived.Lib.IfaceEq
import Derived.Deep.RegionWith
import Derived.RangeFuncNested
import Derived.RangeFuncBound
import Derived.RangeFuncCalls
import Derived.RangeFuncLeaves
import Derived.Shelf.Abstract
import Derived.Shelf.RegionOpen
import Derived.OwnWalkIn
import Derived.TacticsInMore
import Derived.LoopNIn
import Derived.LoopIn
import Derived.Maps.AppendAt
import Derived.Lib.BufferRead
import Derived.BigRegion
import Derived.Deep.Cut
import Derived.Deep.CutBlock
import Derived.Deep.Light
import Derived.Deep.RegionHeldLaw
import Derived.Test.YtomcmnompajnlaaGreatDoorBQsh
import Derived.Shelf.Strings.Builder1
import Derived.Test.YtomcmnompajnlaaGreatDoorBSpb
import Derived.Test.YtomcmnompajnlaaGreatDoorBSpi
import Derived.RangeFuncFrom
import Derived.RangeFuncBox
import Derived.Test.YtomcmnompajnlaaGreatDoorBSpl
set_option maxRecDepth 100000
set_option maxHeartbeats 8000000
namespace Go.Proofs.YtomcmnompajnlaaGreatDoor.Fo
open Go.ChangeShapes Go.WideShapes Go.ChangeAt Go.RowKit
set_option linter.unusedVariables false
theorem fl_sound {F:Nat→Gv} {n:Nat} {c f:Int} (h:Fl nmp flp F n c f) (h0:c=0):f=0∧0 < n∧n≤3000∧Kn F n:=by
  cases h with
  | sound a1 a2 a3 a4=>exact ⟨rfl,a1,a2,mis_kn a4⟩
  | _=>exact absurd h0 (by decide)
theorem im_sound {v : Value} {n : Nat} {F : Nat → Gv} (w : World) (hg : Gd w) (hf : RowF w v n F) (hn : n ≤ 1048576) (hp : ∀ i, i < n → (F i).p ≤ 1048576) (hq : ∀ i, i < n → (F i).q ≤ 1048576) (hm : ∀ i, i < n → -9223372036854775808 ≤ (F i).a.m ∧ (F i).a.m ≤ 9223372036854775807) :
    Calls Tryz.prog 43 #[.agg #[v]] w fun e w'=>(∃ c f,e = .returned (.bool (dc (c=0)))∧Fl nmp flp F n c f)∧Kz w w':=by
  have hs:=fun o:Obj=>im_sheet (w.alloc o) ((Kz.of_below (bel1 w o)).gd hg) (hf.kz (.of_below (bel1 _ _))) hn hp hq hm
  obtain ⟨pf,cf,rfl,_⟩:=hf
  clear hg hn hp hq hm
  go_enter Tryz.func43,Tryz.ntmps43
  go_wp2_with fail
  refine (hs _).mono ?_
  rintro e w1 ⟨c,f,rfl,hfl,k1⟩
  have HZ:Hid (Kz w w1∧Fl nmp flp F n c f):=(⟨(Kz.of_below (bel1 _ _)).trans k1,hfl⟩:_∧_)
  by_cases h0:c=0
  · obtain ⟨rfl,_⟩:=fl_sound hfl h0
    subst h0
    clear hs hfl k1
    go_wp2_with fail
    go_ret
    exact ⟨⟨0,0,by rw [dc_t rfl];rfl,HZ.2⟩,HZ.1⟩
  · have h0':=bne h0
    clear hs hfl k1
    go_wp2_with fail
    go_ret
    exact ⟨⟨c,f,by rw [dc_f h0];simp,HZ.2⟩,HZ.1⟩
theorem first_or (Q:Nat→Prop):∀ n,(∃ i,i < n∧(∀ j,j < i→Q j)∧¬ Q i)∨∀ j,j < n→Q j:=by
  intro n
  induction n with
  | zero=>exact .inr (fun j hj=>by omega)
  | succ n ih =>
    rcases ih with ⟨i,h1,h2⟩ | h
    · exact .inl ⟨i,by omega,h2⟩
    · rcases Classical.em (Q n) with g | g
      · refine .inr (fun j hj=>?_)
        by_cases e:j=n
        · rw [e];exact g
        · exact h j (by omega)
      · exact .inl ⟨n,by omega,h,g⟩
theorem fl_ex2 (F:Nat→Gv) (n:Nat):∃ c f,Fl nmp flp F n c f:=by
  by_cases h0:n=0∨3000 < n∨(0 < n∧(F (n - 1)).a.k ≠ 1)
  · exact ⟨_,_,.none0 h0⟩
  · have a1 : 0 < n:=by omega
    have a2:n≤3000:=by omega
    have a3:(F (n - 1)).a.k=1:=by
      rcases Classical.em ((F (n - 1)).a.k=1) with e | e
      · exact e
      · exact absurd (Or.inr (Or.inr ⟨a1,e⟩)) h0
    rcases first_or (ndk nmp flp F) n with ⟨i,b1,b2,b3⟩ | b
    · exact ⟨_,_,.shape i a1 a2 a3 b1 b2 b3⟩
    · rcases first_or (fun k=>szl F n k ≠ 0) n with ⟨i,c1,c2,c3⟩ | c
      · exact ⟨_,_,.order i a1 a2 a3 b c1 c2 (Classical.not_not.1 c3)⟩
      · by_cases d:szl F n (n - 1)=(n:Int)
        · rcases first_or (fun k=>dpr F n n k≤100) n with ⟨i,e1,e2,e3⟩ | e
          · exact ⟨_,_,.depth i a1 a2 a3 b c d e1 e2 (by omega)⟩
          · exact ⟨_,_,.sound a1 a2 a3 b c d e⟩
        · exact ⟨_,_,.whole a1 a2 a3 b c d⟩
structure Ky (S:Nat→Prop) (a w:World):Prop where
  os:w.os=a.os
  output:w.output=a.output
  size:a.heap.size≤w.heap.size
  block:∀ k,k < a.heap.size→¬ S k→w.heap[k]? = a.heap[k]?
theorem Ky.of_kz {S:Nat→Prop} {a w:World} (h:Kz a w):Ky S a w:=⟨h.os,h.output,h.size,fun k hk _=>h.block k hk⟩
theorem Ky.of_kq {S T:Nat→Prop} {a w:World} (h:Kq S a w) (hs:∀ k,S k→T k):Ky T a w:=⟨h.os,h.output,h.size,fun k hk hn=>h.block k hk (fun f=>hn (hs k f))⟩
theorem Ky.trans {S:Nat→Prop} {a b c:World} (h:Ky S a b) (k:Ky S b c):Ky S a c:=⟨k.os.trans h.os,k.output.trans h.output,Nat.le_trans h.size k.size,fun i hi hn=>(k.block i (Nat.lt_of_lt_of_le hi h.size) hn).trans (h.block i hi hn)⟩
theorem Ky.kz {S:Nat→Prop} {w a b:World} (h:Kz w a) (k:Ky S a b) (hs:∀ i,S i→w.heap.size≤i):Kz w b:=⟨k.os.trans h.os,k.output.trans h.output,Nat.le_trans h.size k.size,fun i hi=>(k.block i (Nat.lt_of_lt_of_le hi h.size) (fun f=>by have:=hs i f;omega)).trans (h.block i hi)⟩
theorem Ky.cell {S:Nat→Prop} {a w:World} (h:Ky S a w) {b o:Nat} {v:Value} (hc:a.cell? ⟨b,o,none⟩=some v) (hs:¬ S b):w.cell? ⟨b,o,none⟩=some v:=(World.cell?_of_block (h.block b (lt_of_cell hc) hs)).trans hc
structure En where
  x:ByteArray
  l:Int
  d:Int
  i:Nat
def ec (e:En):List Value:=[.string e.x,.int .i64 e.l,.int .i64 e.d,.int .i64 (e.i:Int)]
def hnm (f:Gv):ByteArray:=if f.a.k=4 then f.A 0 else ByteArray.empty
def hdp (f:Gv) (d:Int):Int:=if f.a.k=36 then d+1 else d
def hd (f:Gv) (i:Nat) (x:ByteArray) (d:Int):List En:=if f.a.k=36 then [⟨x,f.a.l,d,i⟩] else []
def olk (g:Nat→List En) (K:Nat→Int):Nat→List En
  | 0=>[]
  | j+1=>olk g K j ++ g (K j).toNat
def ol (F:Nat→Gv):Nat→Nat→ByteArray→Int→List En
  | 0,_,_,_=>[]
  | b+1,i,x,d=>hd (F i) i x d ++ olk (fun k=>ol F b k (hnm (F i)) (hdp (F i) d)) (F i).K (F i).q
theorem hd_len (f:Gv) (i:Nat) (x:ByteArray) (d:Int):(hd f i x d).length≤1:=by
  unfold hd;split <;> simp
theorem hdp_in (f:Gv) (d:Int):d≤hdp f d∧hdp f d≤d+1:=by
  unfold hdp;split <;> omega
theorem olk_len {F : Nat → Gv} {n i : Nat} {g : Nat → List En} (hK : Kn F n) (hi : i < n) (hg : ∀ k, k < i → ((g k).length : Int) ≤ szl F n k) :
    ∀ (j:Nat),j≤(F i).q→∀ (at' r:Int),bk (szl F n) (F i).K j at'=some r→((olk g (F i).K j).length:Int)≤at' - r:=by
  intro j
  induction j with
  | zero=>intro _ at' r h;cases h;simp [olk]
  | succ j ih =>
    intro hj at' r h
    unfold bk at h
    split at h
    · have hk:=hK i hi j (by omega)
      have h1:=ih (by omega) _ _ h
      have h2:=hg ((F i).K j).toNat (by omega)
      simp only [olk,List.length_append]
      omega
    · cases h
theorem ol_len {F:Nat→Gv} {n:Nat} (hK:Kn F n) (hz:∀ j,j < n→szl F n j ≠ 0):∀ (b i:Nat) (x:ByteArray) (d:Int),i < n→((ol F b i x d).length:Int)≤szl F n i:=by
  intro b
  induction b with
  | zero=>intro i x d hi;have:=szl_in hK n (Nat.le_refl _) i;simp [ol];omega
  | succ b ih =>
    intro i x d hi
    have hs:=hz i hi
    rw [szl_at hK hi] at hs ⊢
    cases hb:bk (szl F n) (F i).K (F i).q (i:Int) with
    | none=>rw [hb] at hs;exact absurd rfl hs
    | some r =>
      have h1:=olk_len hK hi (fun k hk=>ih k (hnm (F i)) (hdp (F i) d) (by omega)) (F i).q (Nat.le_refl _) _ _ hb
      have h2:=hd_len (F i) i x d
      simp only [ol,List.length_append]
      omega
theorem ol_le {F:Nat→Gv} {n:Nat} (hK:Kn F n) (hz:∀ j,j < n→szl F n j ≠ 0) (b i:Nat) (x:ByteArray) (d:Int) (hi:i < n):(ol F b i x d).length≤n:=by
  have h1:=ol_len hK hz b i x d hi
  have h2:=szl_in hK n (Nat.le_refl _) i
  omega
def Of (F:Nat→Gv) (n:Nat) (P:List En):Prop:=(∃ c f,Fl nmp flp F n c f∧c ≠ 0∧P = [])∨(∃ f,Fl nmp flp F n 0 f∧P=ol F n (n - 1) ByteArray.empty 0)
theorem fl_sound2 {F:Nat→Gv} {n:Nat} {f:Int} (h:Fl nmp flp F n 0 f) : 0 < n∧n≤3000∧Kn F n∧(∀ j,j < n→szl F n j ≠ 0)∧∀ j,j < n→ndk nmp flp F j:=by
  cases h with
  | sound a1 a2 a3 a4 a5 a6 a7=>exact ⟨a1,a2,mis_kn a4,a5,a4⟩
theorem infoEnt:(Tryz.prog.info? 84).map (fun i=>(i.zero,i.size,i.bytes))=some (some (.agg #[.string ⟨#[]⟩,.int .i64 0,.int .i64 0,.int .i64 0]),4,40):=by kernel_rfl
structure Eg (w:World) (v0:Value) (a:Fv) (vn vk:Value) (pre:List En) (v:Value) (W:World):Prop where
  bl:Below w.heap.size w W
  sz:w.heap.size+2≤W.heap.size
  ct:W.cell? ⟨w.heap.size,0,none⟩=some v0
  fb:W.heap[w.heap.size+1]? = some (.cells #[.int .i64 a.k,.int .i64 a.f,.int .i64 a.t,.int .i64 a.l,.int .i64 a.o,.int .i64 a.m,.string a.x,vn,vk] 64 (0,0))
  row:W.ownsRow (w.heap.size+2) 84 4 v pre.length (pre.flatMap ec)
theorem Eg.shape {w:World} {v0:Value} {a:Fv} {vn vk:Value} {pre:List En} {v:Value} {W:World} (h:Eg w v0 a vn vk pre v W):∃ (ad:Option Addr) (cap:Nat),v = .slice ad pre.length cap:=by
  rcases h.row.2 with ⟨rfl,e⟩ | ⟨g,cap,cur,rfl,_⟩
  · exact ⟨none,0,by rw [show pre.length=0 from e]⟩
  · exact ⟨_,cap,rfl⟩
theorem Eg.below {w:World} {v0:Value} {a:Fv} {vn vk:Value} {pre:List En} {v:Value} {W W':World} (h:Eg w v0 a vn vk pre v W) (hb:Below W.heap.size W W'):Eg w v0 a vn vk pre v W':=by
  have h1:=h.bl.size
  have h2:=h.sz
  have h3:=hb.size
  exact ⟨h.bl.trans (hb.mono h1),by omega,(hb.cell (p:=⟨w.heap.size,0,none⟩) (lt_of_cell h.ct)).trans h.ct,(hb.block _ (by omega)).trans h.fb,rowBlk h.row (fun g e=>hb.block g (h.row.lt g e).2)⟩
theorem Eg.step {w : World} {v0 : Value} {a : Fv} {vn vk : Value} {pre : List En} {v v' : Value} {W W1 w2 : World} {e : En} (h : Eg w v0 a vn vk pre v W) (hb : Below W.heap.size W W1) (ho : w2.ownsRow (w.heap.size + 2) 84 4 v' (pre.length + 1) (pre.flatMap ec ++ ec e)) (hg : W1.grownBy w2 v.ownBlock) :
    Eg w v0 a vn vk (pre ++ [e]) v' w2:=by
  have h1:=h.below hb
  have hz:=h1.sz
  have hs:=hg.size
  have hne:∀ k,k < w.heap.size+2→some k ≠ v.ownBlock:=fun k hk e2=>by have:=(h1.row.lt k e2.symm).1;omega
  have hk:∀ k,k < w.heap.size+2→w2.heap[k]? = W1.heap[k]?:=fun k hk=>hg.block k (by omega) (hne k hk)
  refine ⟨⟨hg.os.trans h1.bl.os,hg.tape.trans h1.bl.tape,hg.output.trans h1.bl.output,by have:=h1.bl.size;omega,fun k hk1=>(hk k (by omega)).trans (h1.bl.block k hk1)⟩,by omega,(World.cell?_of_block (hk w.heap.size (by omega))).trans h1.ct,(hk _ (by omega)).trans h1.fb,?_⟩
  rw [List.length_append,List.flatMap_append]
  simpa using ho
theorem ec_at {L:List En} {m:Nat} {e:En} (h:L[m]? = some e) (r:Nat) (hr:r < 4):(L.flatMap ec)[m*4+r]? = (ec e)[r]?:=by
  induction L generalizing m with
  | nil=>simp at h
  | cons y L ih =>
    rw [List.flatMap_cons]
    cases m with
    | zero =>
      simp at h
      subst h
      rw [List.getElem?_append_left (by simp [ec];omega)]
      simp
    | succ m =>
      simp at h
      rw [List.getElem?_append_right (by simp [ec];omega),← ih h]
      congr 1
      simp [ec]
      omega
structure Ein (w:World) (v0:Value) (a:Fv) (vn vk:Value) (pre L:List En) (m:Nat) (v u:Value) (W:World):Prop where
  eg:Eg w v0 a vn vk (pre ++ L.take m) v W
  inn:W.ownsRow w.heap.size 84 4 u L.length (L.flatMap ec)
  df:∀ g,v.ownBlock=some g→u.ownBlock ≠ some g
theorem Ein.step {w : World} {v0 : Value} {a : Fv} {vn vk : Value} {pre L : List En} {m : Nat} {v u : Value} {W W1 w2 : World} {e : En} {g c k : Nat} (h : Ein w v0 a vn vk pre L m v u W) (he : L[m]? = some e) (hb : Below W.heap.size W W1) (hk : k = (pre ++ L.take m).length)
    (ho:w2.ownsRow (w.heap.size+2) 84 4 (.slice (some ⟨g,0,none⟩) (k+1) c) (k+1) ((pre ++ L.take m).flatMap ec ++ ec e)) (hg:W1.grownBy w2 v.ownBlock) (hl:v.ownBlock=some g∨g=W1.heap.size) :
    Ein w v0 a vn vk pre L (m+1) (.slice (some ⟨g,0,none⟩) (k+1) c) u w2:=by
  subst hk
  have e1:L.take (m+1)=L.take m ++ [e]:=by
    rw [List.take_add_one,he];rfl
  have h1:W1.ownsRow w.heap.size 84 4 u L.length (L.flatMap ec):=rowBlk h.inn (fun g e=>hb.block g (h.inn.lt g e).2)
  have hbs:=hb.size
  refine ⟨?_,?_,?_⟩
  · rw [e1,← List.append_assoc]
    exact h.eg.step hb ho hg
  · refine rowBlk h1 (fun g2 e2=>hg.block g2 (h1.lt g2 e2).2 (fun e3=>?_))
    exact h.df g2 e3.symm e2
  · intro g2 e2 e3
    simp only [Value.ownBlock,Option.some.injEq] at e2
    subst e2
    rcases hl with hl | hl
    · exact h.df _ hl e3
    · have:=(h.inn.lt _ e3).2
      omega
theorem olk_mono (g:Nat→List En) (K:Nat→Int) (j:Nat):∀ q,j≤q→(olk g K j).length≤(olk g K q).length:=by
  intro q
  induction q with
  | zero=>intro h;rw [show j=0 by omega];exact Nat.le_refl _
  | succ q ih =>
    intro h
    by_cases e:j=q+1
    · rw [e];exact Nat.le_refl _
    · have:=ih (by omega)
      simp only [olk,List.length_append]
      omega
def OlS (F:Nat→Gv) (n b:Nat):Prop:=∀ (i:Nat) (x:ByteArray) (d:Int) (w:World) (v:Value),i < b→i < n→0≤d→d+(b:Int)≤6000→RowF w v n F →
  Calls Tryz.prog 47 #[.agg #[v],.int .i64 (i:Int),.string x,.int .i64 d] w fun e w'=>∃ u,e = .returned u∧w'.ownsRow w.heap.size 84 4 u (ol F b i x d).length ((ol F b i x d).flatMap ec)∧Below w.heap.size w w'
theorem sp_ol_36 {F : Nat → Gv} {n b : Nat} (hK : Kn F n) (hz : ∀ j, j < n → szl F n j ≠ 0) (hn : n ≤ 3000) (hq : ∀ i, i < n → (F i).q ≤ 200) (ih : OlS F n b) (i : Nat) (x : ByteArray) (d : Int) (w : World) (v : Value) (hi : i < b + 1) (hin : i < n) (hd0 : 0 ≤ d) (hdb : d + ((b + 1 : Nat) : Int) ≤ 6000) (hf : RowF w v n F) (hk : (F i).a.k = 36) :
    Calls Tryz.prog 47 #[.agg #[v],.int .i64 (i:Int),.string x,.int .i64 d] w fun e w'=>∃ u,e = .returned u∧w'.ownsRow w.heap.size 84 4 u (ol F (b+1) i x d).length ((ol F (b+1) i x d).flatMap ec)∧Below w.heap.size w w':=by
  have HRF:Hid (RowF w v n F):=hf
  have HIH:Hid (OlS F n b):=ih
  have HLE:Hid ((ol F (b+1) i x d).length≤n):=ol_le hK hz (b+1) i x d hin
  have HKN:Hid (Kn F n∧i < n∧i < b+1):=(⟨hK,hin,hi⟩:_∧_∧_)
  have hnm1:hnm (F i)=ByteArray.empty:=by unfold hnm;rw [if_neg (by omega)]
  have hdp1:hdp (F i) d=d+1:=by unfold hdp;rw [if_pos hk]
  have hhd:hd (F i) i x d = [⟨x,(F i).a.l,d,i⟩]:=by unfold hd;rw [if_pos hk]
  have hqi:((F i).q:Int)≤200:=by have:=hq i hin;omega
  obtain ⟨pf,cf,rfl,hf2⟩:=hf
  obtain ⟨cd,rfl,hcc,hrc⟩:=hf2 (by omega)
  obtain ⟨vn,vk,hc9,hrn,hrk⟩:=hrc i hin
  obtain ⟨pn,cn,rfl,hn2⟩:=hrn
  obtain ⟨pk,ck,rfl,hk2⟩:=hrk
  obtain ⟨e0,e1,e2,e3,e4,e5,e6,e7,e8⟩:=hc9
  have e0':∀ o:Obj,(w.alloc o).cell? _=some _:=fun o=>((bel1 w o).cell (lt_of_cell' e0)).trans e0
  have e1':∀ o:Obj,(w.alloc o).cell? _=some _:=fun o=>((bel1 w o).cell (lt_of_cell' e1)).trans e1
  have e2':∀ o:Obj,(w.alloc o).cell? _=some _:=fun o=>((bel1 w o).cell (lt_of_cell' e2)).trans e2
  have e3':∀ o:Obj,(w.alloc o).cell? _=some _:=fun o=>((bel1 w o).cell (lt_of_cell' e3)).trans e3
  have e4':∀ o:Obj,(w.alloc o).cell? _=some _:=fun o=>((bel1 w o).cell (lt_of_cell' e4)).trans e4
  have e5':∀ o:Obj,(w.alloc o).cell? _=some _:=fun o=>((bel1 w o).cell (lt_of_cell' e5)).trans e5
  have e6':∀ o:Obj,(w.alloc o).cell? _=some _:=fun o=>((bel1 w o).cell (lt_of_cell' e6)).trans e6
  have e7':∀ o:Obj,(w.alloc o).cell? _=some _:=fun o=>((bel1 w o).cell (lt_of_cell' e7)).trans e7
  have e8':∀ o:Obj,(w.alloc o).cell? _=some _:=fun o=>((bel1 w o).cell (lt_of_cell' e8)).trans e8
  have hnI:(n:Int)≤3000:=by omega
  have hiI:(i:Int) < (n:Int):=by omega
  obtain ⟨i0,hi0,hz0,hz1,hz2⟩:=info_parts infoEnt
  have HI0:Hid (Tryz.prog.info? 84=some i0):=hi0
  have HK2:Hid (0 < (F i).q→∃ a:Addr,pk=some a∧(F i).q≤ck∧∀ j,j < (F i).q→w.cell? (a.add j)=some (.int .i64 ((F i).K j))):=hk2
  have H0:Hid (Eg w (.slice (some cd) n cf) (F i).a (.slice pn (F i).p cn) (.slice pk (F i).q ck) [] (.slice none 0 0) ((w.alloc (.cells #[.slice (some cd) n cf] 31)).alloc (.cells #[.int .i64 (F i).a.k,.int .i64 (F i).a.f,.int .i64 (F i).a.t,.int .i64 (F i).a.l,.int .i64 (F i).a.o,.int .i64 (F i).a.m,.string (F i).a.x,.slice pn (F i).p cn,.slice pk (F i).q ck] 64))):=by
    refine (⟨bel2 w _ _,by simp,?_,?_,World.ownsRow_nil _ _ _ _⟩:Eg w (.slice (some cd) n cf) (F i).a (.slice pn (F i).p cn) (.slice pk (F i).q ck) [] _ _)
    · rw [World.cell?_alloc_past _ _ _ (by simp)];exact cell_new1 w _ _
    · have:=World.alloc_heap_new (w.alloc (.cells #[.slice (some cd) n cf] 31)) (.cells #[.int .i64 (F i).a.k,.int .i64 (F i).a.f,.int .i64 (F i).a.t,.int .i64 (F i).a.l,.int .i64 (F i).a.o,.int .i64 (F i).a.m,.string (F i).a.x,.slice pn (F i).p cn,.slice pk (F i).q ck] 64)
      simpa using this
  have HDB:Hid (d+((b+1:Nat):Int)≤6000):=hdb
  have hd9:d≤6000:=by omega
  clear hf2 hrc hn2 hk2 hK hz hq hn ih hi0 e0 e1 e2 e3 e4 e5 e6 e7 e8 hcc
  rw [hk] at e0'
  have hqc:∀ (a1 a2:Obj) (j:Nat) (u:Value),[(.string x:Value),.int .i64 (F i).a.l,.int .i64 d,.int .i64 (i:Int)][j]? = some u→(((w.alloc a1).alloc a2).alloc (.cells #[.string x,.int .i64 (F i).a.l,.int .i64 d,.int .i64 (i:Int)] 84)).cell? ((⟨w.heap.size+1+1,0,none⟩:Addr).add j)=some u:=fun a1 a2=>by
    have:=qr_cells ((w.alloc a1).alloc a2) #[.string x,.int .i64 (F i).a.l,.int .i64 d,.int .i64 (i:Int)] 84 [(.string x:Value),.int .i64 (F i).a.l,.int .i64 d,.int .i64 (i:Int)] rfl
    simpa using this
  have h1c:∀ u ∈ [(.string x:Value),.int .i64 (F i).a.l,.int .i64 d,.int .i64 (i:Int)],u.oneCell'=true:=by intro u hu;simp at hu;rcases hu with rfl | rfl | rfl | rfl <;> rfl
  have HST:Hid (∀ (o:Obj) (v':Value) (w2:World),w2.ownsRow (w.heap.size+2) 84 4 v' (0+1) ([] ++ [(.string x:Value),.int .i64 (F i).a.l,.int .i64 d,.int .i64 (i:Int)])→(((w.alloc (.cells #[.slice (some cd) n cf] 31)).alloc (.cells #[.int .i64 36,.int .i64 (F i).a.f,.int .i64 (F i).a.t,.int .i64 (F i).a.l,.int .i64 (F i).a.o,.int .i64 (F i).a.m,.string (F i).a.x,.slice pn (F i).p cn,.slice pk (F i).q ck] 64)).alloc o).grownBy w2 none→Eg w (.slice (some cd) n cf) (F i).a (.slice pn (F i).p cn) (.slice pk (F i).q ck) [⟨x,(F i).a.l,d,i⟩] v' w2):=(fun o v' w2 ho hgr=>by
    rw [← hk] at hgr
    exact Eg.step (e:=⟨x,(F i).a.l,d,i⟩) H0 (bel1 _ _) ho hgr:∀ (o:Obj) (v':Value) (w2:World),_)
  go_enter Tryz.func47,Tryz.ntmps47
  go_wp2_with (at_builtin;refine wpList_append_own _ rfl (.tmp 26) (.tmp 33) 42 rfl (w.heap.size+2) 84 i0 (.agg #[.string ⟨#[]⟩,.int .i64 0,.int .i64 0,.int .i64 0]) 4 40 Tryz.underlying42 HI0 hz0 hz1 hz2 rfl (by decide) _ _ _ rfl (World.ownsRow_nil _ _ _ _) ⟨w.heap.size+1+1,0,none⟩ 1 1 [.string x,.int .i64 (F i).a.l,.int .i64 d,.int .i64 (i:Int)] rfl rfl (hqc _ _) h1c (by unfold maxLen;omega) (by omega) (by simp) ?_;intro v' w2 hown1 hgrow1 _;obtain ⟨g',cap',rfl,_,_⟩:=hown1.form (by omega);have HN:Hid (Eg w (.slice (some cd) n cf) (F i).a (.slice pn (F i).p cn) (.slice pk (F i).q ck) [⟨x,(F i).a.l,d,i⟩] (.slice (some ⟨g',0,none⟩) (0+1) cap') w2):=(show ∀ (o:Obj) (v':Value) (w2:World),_ from HST) _ _ _ hown1 hgrow1;have d8:w2.cell? ⟨w.heap.size+1,8,none⟩=some (.slice pk (F i).q ck):=(by simp [World.cell?,HN.fb]);have d0:w2.cell? ⟨w.heap.size+1,0,none⟩=some (.int .i64 (F i).a.k):=(by simp [World.cell?,HN.fb]);clear HST hown1 hgrow1 hqc h1c H0 e0' e1' e2' e3' e4' e5' e6' e7' e8')
  rw [← hhd] at HN
  go_loopw [10,40] (fun s10 s40 wr=>∃ j:Nat,s40 = .int .i64 (j:Int)∧j≤(F i).q∧Hid (Eg w (.slice (some cd) n cf) (F i).a (.slice pn (F i).p cn) (.slice pk (F i).q ck) (hd (F i) i x d ++ olk (fun k=>ol F b k (hnm (F i)) (hdp (F i) d)) (F i).K j) s10 wr)) (fun _ s40 _=>(F i).q - (intOf s40).toNat)
  case atStart=>exact ⟨0,rfl,Nat.zero_le _,by simpa [olk] using HN⟩
  case round =>
    clear HN d8 d0
    obtain ⟨j,rfl,hjq,HG⟩:=hrel
    obtain ⟨pre,hpr⟩:∃ pre,pre=hd (F i) i x d ++ olk (fun k=>ol F b k (hnm (F i)) (hdp (F i) d)) (F i).K j:=⟨_,rfl⟩
    rw [← hpr] at HG
    have hg:=(show Eg w (.slice (some cd) n cf) (F i).a (.slice pn (F i).p cn) (.slice pk (F i).q ck) pre u10 wr from HG)
    obtain ⟨ad,cap,rfl⟩:=hg.shape
    clear HG
    rcases Nat.lt_or_ge j (F i).q with hj | hj
    case inr =>
      have hjI:¬ (j:Int) < ((F i).q:Int):=by omega
      have HX:Hid (wr.ownsRow w.heap.size 84 4 (.slice ad pre.length cap) (ol F (b+1) i x d).length ((ol F (b+1) i x d).flatMap ec)∧Below w.heap.size w wr):=by
        have ej:j=(F i).q:=by omega
        have e:ol F (b+1) i x d=pre:=by rw [hpr,ej];rfl
        rw [e]
        have q1:wr.ownsRow w.heap.size 84 4 (.slice ad pre.length cap) pre.length (pre.flatMap ec):=ownsRow_mono' hg.row (by omega)
        exact (⟨q1,hg.bl⟩:_∧_)
      clear hg hpr HRF HIH HLE HKN HK2 HI0 HDB
      go_wp2_with fail
      go_ret
      exact ⟨_,rfl,HX.1,HX.2⟩
    have hjI:(j:Int) < ((F i).q:Int):=by omega
    obtain ⟨ak,rfl,hck,hkr⟩:=(show 0 < (F i).q→∃ a:Addr,pk=some a∧(F i).q≤ck∧∀ j,j < (F i).q→w.cell? (a.add j)=some (.int .i64 ((F i).K j)) from HK2) (by omega)
    obtain ⟨hK,hin',hib⟩:=(show Kn F n∧i < n∧i < b+1 from HKN)
    have hk0:=hK i hin' j hj
    obtain ⟨kn,hkn⟩:∃ kn:Nat,(F i).K j=(kn:Int):=⟨((F i).K j).toNat,by omega⟩
    have qa:=(hg.bl.cell (lt_of_cell' (hkr j hj))).trans (hkr j hj)
    rw [hkn] at qa hk0
    have c1:=hg.ct
    have d0:wr.cell? ⟨w.heap.size+1,0,none⟩=some (.int .i64 (F i).a.k):=by simp [World.cell?,hg.fb]
    rw [hk] at d0
    have hdb':=(show d+((b+1:Nat):Int)≤6000 from HDB)
    have hcall:=(show OlS F n b from HIH) kn (hnm (F i)) (hdp (F i) d) wr _ (by omega) (by omega) (by have:=hdp_in (F i) d;omega) (by have:=hdp_in (F i) d;omega) ((show RowF w _ n F from HRF).below hg.bl)
    obtain ⟨L,hL⟩:∃ L,L=ol F b kn (hnm (F i)) (hdp (F i) d):=⟨_,rfl⟩
    rw [← hL,hnm1,hdp1] at hcall
    have hpre:hd (F i) i x d ++ olk (fun k=>ol F b k (hnm (F i)) (hdp (F i) d)) (F i).K (j+1)=pre ++ L:=by
      rw [hpr,hL,List.append_assoc]
      show _ ++ (olk _ _ j ++ ol F b ((F i).K j).toNat _ _) = _
      rw [hkn,Int.toNat_natCast]
    have hlen:pre.length+L.length≤3000:=by
      have hl1:=olk_mono (fun k=>ol F b k (hnm (F i)) (hdp (F i) d)) (F i).K (j+1) (F i).q (by omega)
      have hl2:(hd (F i) i x d ++ olk (fun k=>ol F b k (hnm (F i)) (hdp (F i) d)) (F i).K (F i).q).length≤n:=HLE
      have hl3:=congrArg List.length hpre
      simp only [List.length_append] at hl1 hl2 hl3
      omega
    have HPRE:Hid (hd (F i) i x d ++ olk (fun k=>ol F b k (hnm (F i)) (hdp (F i) d)) (F i).K (j+1)=pre ++ L):=hpre
    have HBEL:Hid (∀ w1,Below wr.heap.size wr w1→Eg w (.slice (some cd) n cf) (F i).a (.slice pn (F i).p cn) (.slice (some ak) (F i).q ck) pre (.slice ad pre.length cap) w1):=(fun w1 hb=>hg.below hb:∀ w1,_)
    have hwl:∀ g,(Value.slice ad pre.length cap).ownBlock=some g→g < wr.heap.size:=fun g e=>(hg.row.lt g e).2
    have hwr:=hg.sz
    clear hg hpr hpre hL hK hkr hkn hdb' HRF HIH HLE HKN HK2 HDB
    go_wp2_with fail
    refine hcall.mono ?_
    rintro e w1 ⟨u2,rfl,ho2,b2⟩
    have hsh:∃ (ad2:Option Addr) (cap2:Nat),u2 = .slice ad2 L.length cap2:=by
      rcases ho2.2 with ⟨rfl,e⟩ | ⟨g,cap,cur,rfl,_⟩
      · exact ⟨none,0,by rw [show L.length=0 from e]⟩
      · exact ⟨_,cap,rfl⟩
    obtain ⟨ad2,cap2,rfl⟩:=hsh
    have HE0:Hid (Ein w (.slice (some cd) n cf) (F i).a (.slice pn (F i).p cn) (.slice (some ak) (F i).q ck) pre L 0 (.slice ad pre.length cap) (.slice ad2 L.length cap2) w1):=(⟨by simpa using (show ∀ w1,_ from HBEL) w1 b2,ownsRow_mono' ho2 (by omega),fun g e e2=>by have h1:=hwl g e;have h2:=(ho2.lt g e2).1;omega⟩:Ein w (.slice (some cd) n cf) (F i).a (.slice pn (F i).p cn) (.slice (some ak) (F i).q ck) pre L 0 _ _ _)
    have hLI:(L.length:Int)≤3000:=by omega
    clear HBEL hwl ho2 b2 hcall c1 d0 qa hwr
    go_wp2_with fail
    go_loopw [10,57] (fun s10 s57 wv=>∃ m:Nat,s57 = .int .i64 (m:Int)∧m≤L.length∧Hid (Ein w (.slice (some cd) n cf) (F i).a (.slice pn (F i).p cn) (.slice (some ak) (F i).q ck) pre L m s10 (.slice ad2 L.length cap2) wv)) (fun _ s57 _=>L.length - (intOf s57).toNat)
    case atStart=>exact ⟨0,rfl,Nat.zero_le _,HE0⟩
    case round =>
      clear HE0
      obtain ⟨m,rfl,hml,HE⟩:=hrel
      have hE:=(show Ein w (.slice (some cd) n cf) (F i).a (.slice pn (F i).p cn) (.slice (some ak) (F i).q ck) pre L m u10 (.slice ad2 L.length cap2) wr from HE)
      obtain ⟨ad3,cap3,rfl⟩:=hE.eg.shape
      clear HE
      rcases Nat.lt_or_ge m L.length with hm | hm
      case inr =>
        have hmI:¬ (m:Int) < (L.length:Int):=by omega
        have HX:Hid (Eg w (.slice (some cd) n cf) (F i).a (.slice pn (F i).p cn) (.slice (some ak) (F i).q ck) (hd (F i) i x d ++ olk (fun k=>ol F b k (hnm (F i)) (hdp (F i) d)) (F i).K (j+1)) (.slice ad3 (pre ++ L.take m).length cap3) wr):=by
          have h1:=hE.eg
          have em:L.take m=L:=List.take_of_length_le hm
          rw [em] at h1 ⊢
          rw [show _ = _ from HPRE]
          exact h1
        clear hE HPRE HI0
        go_wp2_with fail
        go_roundw
        case rel=>exact ⟨j+1,by go_num,by omega,HX⟩
        case measure=>simp [intOf];omega
      have hmI:(m:Int) < (L.length:Int):=by omega
      obtain ⟨e,he⟩:∃ e,L[m]? = some e:=⟨_,List.getElem?_eq_getElem hm⟩
      obtain ⟨g2,c2,e2,_,_⟩:=hE.inn.form (by omega)
      simp only [Value.slice.injEq] at e2
      obtain ⟨rfl,_,rfl⟩:=e2
      have r:∀ t,t < 4→wr.cell? ⟨g2,m*4+t,none⟩=(ec e)[t]?:=fun t ht=>(hE.inn.cellAt (m*4+t) (by omega)).trans (ec_at he t ht)
      have r0:wr.cell? ⟨g2,m*4,none⟩=some (.string e.x):=r 0 (by omega)
      have r1:wr.cell? ⟨g2,m*4+1,none⟩=some (.int .i64 e.l):=r 1 (by omega)
      have r2:wr.cell? ⟨g2,m*4+2,none⟩=some (.int .i64 e.d):=r 2 (by omega)
      have r3:wr.cell? ⟨g2,m*4+3,none⟩=some (.int .i64 (e.i:Int)):=r 3 (by omega)
      have hkl:(pre ++ L.take m).length+1≤3000:=by rw [List.length_append,List.length_take];omega
      obtain ⟨k,hk9⟩:∃ k,k=(pre ++ L.take m).length:=⟨_,rfl⟩
      have hbs:=hE.eg.sz
      have howna:∀ a b:Obj,((wr.alloc a).alloc b).ownsRow (w.heap.size+2) 84 4 (.slice ad3 k cap3) k ((pre ++ L.take m).flatMap ec):=fun a b=>by
        rw [hk9];exact (hE.eg.row.alloc a).alloc b
      rw [← hk9] at hE hkl ⊢
      have HST : Hid (∀ (g c : Nat) (w2 : World), w2.ownsRow (w.heap.size + 2) 84 4 (.slice (some ⟨g, 0, none⟩) (k + 1) c) (k + 1) ((pre ++ L.take m).flatMap ec ++ [.string e.x, .int .i64 e.l, .int .i64 e.d, .int .i64 (e.i : Int)]) → ((wr.alloc (.cells #[.string e.x, .int .i64 e.l, .int .i64 e.d, .int .i64 (e.i : Int)] 84)).alloc (.cells #[.string e.x, .int .i64 e.l, .int .i64 e.d, .int .i64 (e.i : Int)] 84)).grownBy w2 (Value.slice ad3 k cap3).ownBlock → ((Value.slice ad3 k cap3).ownBlock = some g ∨ g = wr.heap.size + 2) →
          Ein w (.slice (some cd) n cf) (F i).a (.slice pn (F i).p cn) (.slice (some ak) (F i).q ck) pre L (m+1) (.slice (some ⟨g,0,none⟩) (k+1) c) (.slice (some ⟨g2,0,none⟩) L.length cap2) w2):=(fun g c w2 ho hgr hl=>hE.step he (bel2 wr _ _) hk9 ho hgr (by simpa using hl):∀ (g c:Nat) (w2:World),_)
      have hqc:∀ (o:Obj) (j:Nat) (u:Value),[(.string e.x:Value),.int .i64 e.l,.int .i64 e.d,.int .i64 (e.i:Int)][j]? = some u→((wr.alloc o).alloc (.cells #[.string e.x,.int .i64 e.l,.int .i64 e.d,.int .i64 (e.i:Int)] 84)).cell? ((⟨wr.heap.size+1,0,none⟩:Addr).add j)=some u:=fun o=>by
        have:=qr_cells (wr.alloc o) #[.string e.x,.int .i64 e.l,.int .i64 e.d,.int .i64 (e.i:Int)] 84 [(.string e.x:Value),.int .i64 e.l,.int .i64 e.d,.int .i64 (e.i:Int)] rfl
        simpa using this
      have h1c:∀ u ∈ [(.string e.x:Value),.int .i64 e.l,.int .i64 e.d,.int .i64 (e.i:Int)],u.oneCell'=true:=by intro u hu;simp at hu;rcases hu with rfl | rfl | rfl | rfl <;> rfl
      clear hE he r hk9 HPRE
      go_wp2_with (at_builtin;refine wpList_append_lies _ rfl (.tmp 61) (.tmp 63) 42 rfl (w.heap.size+2) 84 i0 (.agg #[.string ⟨#[]⟩,.int .i64 0,.int .i64 0,.int .i64 0]) 4 40 Tryz.underlying42 HI0 hz0 hz1 hz2 rfl (by decide) _ _ _ rfl (howna _ _) ⟨wr.heap.size+1,0,none⟩ 1 1 [.string e.x,.int .i64 e.l,.int .i64 e.d,.int .i64 (e.i:Int)] rfl rfl (hqc _) h1c (by decide) (by unfold maxLen;omega) (by omega) (by simp;omega) (wr.heap.size+2) (by simp) ?_;intro g' cap' w2 hown1 hgrow1 hl1 _;have HN:=(show ∀ (g c:Nat) (w2:World),_ from HST) _ _ _ hown1 hgrow1 hl1;have HN':Hid (Ein w (.slice (some cd) n cf) (F i).a (.slice pn (F i).p cn) (.slice (some ak) (F i).q ck) pre L (m+1) (.slice (some ⟨g',0,none⟩) (k+1) cap') (.slice (some ⟨g2,0,none⟩) L.length cap2) w2):=HN;clear HN HST hown1 hgrow1 hl1 howna hqc h1c r0 r1 r2 r3)
      go_roundw
      case rel=>exact ⟨m+1,by go_num,by omega,HN'⟩
      case measure=>simp [intOf];omega
theorem sp_ol_4 {F : Nat → Gv} {n b : Nat} (hK : Kn F n) (hz : ∀ j, j < n → szl F n j ≠ 0) (hn : n ≤ 3000) (hq : ∀ i, i < n → (F i).q ≤ 200) (ih : OlS F n b) (i : Nat) (x : ByteArray) (d : Int) (w : World) (v : Value) (hi : i < b + 1) (hin : i < n) (hd0 : 0 ≤ d) (hdb : d + ((b + 1 : Nat) : Int) ≤ 6000) (hf : RowF w v n F) (hk : (F i).a.k = 4) (hp1 : 0 < (F i).p) :
    Calls Tryz.prog 47 #[.agg #[v],.int .i64 (i:Int),.string x,.int .i64 d] w fun e w'=>∃ u,e = .returned u∧w'.ownsRow w.heap.size 84 4 u (ol F (b+1) i x d).length ((ol F (b+1) i x d).flatMap ec)∧Below w.heap.size w w':=by
  have HRF:Hid (RowF w v n F):=hf
  have HIH:Hid (OlS F n b):=ih
  have HLE:Hid ((ol F (b+1) i x d).length≤n):=ol_le hK hz (b+1) i x d hin
  have HKN:Hid (Kn F n∧i < n∧i < b+1):=(⟨hK,hin,hi⟩:_∧_∧_)
  have hnm1:hnm (F i)=((F i).A 0):=by unfold hnm;rw [if_pos hk]
  have hdp1:hdp (F i) d=d:=by unfold hdp;rw [if_neg (by omega)]
  have hhd:hd (F i) i x d = []:=by unfold hd;rw [if_neg (by omega)]
  have hqi:((F i).q:Int)≤200:=by have:=hq i hin;omega
  obtain ⟨pf,cf,rfl,hf2⟩:=hf
  obtain ⟨cd,rfl,hcc,hrc⟩:=hf2 (by omega)
  obtain ⟨vn,vk,hc9,hrn,hrk⟩:=hrc i hin
  obtain ⟨pn,cn,rfl,hn2⟩:=hrn
  obtain ⟨pk,ck,rfl,hk2⟩:=hrk
  obtain ⟨e0,e1,e2,e3,e4,e5,e6,e7,e8⟩:=hc9
  have e0':∀ o:Obj,(w.alloc o).cell? _=some _:=fun o=>((bel1 w o).cell (lt_of_cell' e0)).trans e0
  have e1':∀ o:Obj,(w.alloc o).cell? _=some _:=fun o=>((bel1 w o).cell (lt_of_cell' e1)).trans e1
  have e2':∀ o:Obj,(w.alloc o).cell? _=some _:=fun o=>((bel1 w o).cell (lt_of_cell' e2)).trans e2
  have e3':∀ o:Obj,(w.alloc o).cell? _=some _:=fun o=>((bel1 w o).cell (lt_of_cell' e3)).trans e3
  have e4':∀ o:Obj,(w.alloc o).cell? _=some _:=fun o=>((bel1 w o).cell (lt_of_cell' e4)).trans e4
  have e5':∀ o:Obj,(w.alloc o).cell? _=some _:=fun o=>((bel1 w o).cell (lt_of_cell' e5)).trans e5
  have e6':∀ o:Obj,(w.alloc o).cell? _=some _:=fun o=>((bel1 w o).cell (lt_of_cell' e6)).trans e6
  have e7':∀ o:Obj,(w.alloc o).cell? _=some _:=fun o=>((bel1 w o).cell (lt_of_cell' e7)).trans e7
  have e8':∀ o:Obj,(w.alloc o).cell? _=some _:=fun o=>((bel1 w o).cell (lt_of_cell' e8)).trans e8
  have hnI:(n:Int)≤3000:=by omega
  have hiI:(i:Int) < (n:Int):=by omega
  obtain ⟨i0,hi0,hz0,hz1,hz2⟩:=info_parts infoEnt
  have HI0:Hid (Tryz.prog.info? 84=some i0):=hi0
  have HK2:Hid (0 < (F i).q→∃ a:Addr,pk=some a∧(F i).q≤ck∧∀ j,j < (F i).q→w.cell? (a.add j)=some (.int .i64 ((F i).K j))):=hk2
  obtain ⟨an,rfl,hcn,hna⟩:=hn2 hp1
  have hpI : 0 < ((F i).p:Int):=by omega
  have HNA:Hid (w.cell? (an.add 0)=some (.string ((F i).A 0))):=hna 0 hp1
  have H0:Hid (Eg w (.slice (some cd) n cf) (F i).a (.slice (some an) (F i).p cn) (.slice pk (F i).q ck) [] (.slice none 0 0) ((w.alloc (.cells #[.slice (some cd) n cf] 31)).alloc (.cells #[.int .i64 (F i).a.k,.int .i64 (F i).a.f,.int .i64 (F i).a.t,.int .i64 (F i).a.l,.int .i64 (F i).a.o,.int .i64 (F i).a.m,.string (F i).a.x,.slice (some an) (F i).p cn,.slice pk (F i).q ck] 64))):=by
    refine (⟨bel2 w _ _,by simp,?_,?_,World.ownsRow_nil _ _ _ _⟩:Eg w (.slice (some cd) n cf) (F i).a (.slice (some an) (F i).p cn) (.slice pk (F i).q ck) [] _ _)
    · rw [World.cell?_alloc_past _ _ _ (by simp)];exact cell_new1 w _ _
    · have:=World.alloc_heap_new (w.alloc (.cells #[.slice (some cd) n cf] 31)) (.cells #[.int .i64 (F i).a.k,.int .i64 (F i).a.f,.int .i64 (F i).a.t,.int .i64 (F i).a.l,.int .i64 (F i).a.o,.int .i64 (F i).a.m,.string (F i).a.x,.slice (some an) (F i).p cn,.slice pk (F i).q ck] 64)
      simpa using this
  have HDB:Hid (d+((b+1:Nat):Int)≤6000):=hdb
  have hd9:d≤6000:=by omega
  clear hf2 hrc hn2 hk2 hK hz hq hn ih hi0 e0 e1 e2 e3 e4 e5 e6 e7 e8 hcc hp1 hna hcn
  have hk36:((F i).a.k == 36)=false:=by simp [hk]
  go_enter Tryz.func47,Tryz.ntmps47
  go_wp2_with fail
  have HN:=H0
  rw [← hhd] at HN
  go_loopw [10,40] (fun s10 s40 wr=>∃ j:Nat,s40 = .int .i64 (j:Int)∧j≤(F i).q∧Hid (Eg w (.slice (some cd) n cf) (F i).a (.slice (some an) (F i).p cn) (.slice pk (F i).q ck) (hd (F i) i x d ++ olk (fun k=>ol F b k (hnm (F i)) (hdp (F i) d)) (F i).K j) s10 wr)) (fun _ s40 _=>(F i).q - (intOf s40).toNat)
  case atStart=>exact ⟨0,rfl,Nat.zero_le _,by simpa [olk,hk] using HN⟩
  case round =>
    clear HN H0 e0' e1' e2' e3' e4' e5' e6' e7' e8'
    obtain ⟨j,rfl,hjq,HG⟩:=hrel
    obtain ⟨pre,hpr⟩:∃ pre,pre=hd (F i) i x d ++ olk (fun k=>ol F b k (hnm (F i)) (hdp (F i) d)) (F i).K j:=⟨_,rfl⟩
    rw [← hpr] at HG
    have hg:=(show Eg w (.slice (some cd) n cf) (F i).a (.slice (some an) (F i).p cn) (.slice pk (F i).q ck) pre u10 wr from HG)
    obtain ⟨ad,cap,rfl⟩:=hg.shape
    clear HG
    rcases Nat.lt_or_ge j (F i).q with hj | hj
    case inr =>
      have hjI:¬ (j:Int) < ((F i).q:Int):=by omega
      have HX:Hid (wr.ownsRow w.heap.size 84 4 (.slice ad pre.length cap) (ol F (b+1) i x d).length ((ol F (b+1) i x d).flatMap ec)∧Below w.heap.size w wr):=by
        have ej:j=(F i).q:=by omega
        have e:ol F (b+1) i x d=pre:=by rw [hpr,ej];rfl
        rw [e]
        have q1:wr.ownsRow w.heap.size 84 4 (.slice ad pre.length cap) pre.length (pre.flatMap ec):=ownsRow_mono' hg.row (by omega)
        exact (⟨q1,hg.bl⟩:_∧_)
      clear hg hpr HRF HIH HLE HKN HK2 HI0 HDB HNA
      go_wp2_with fail
      go_ret
      exact ⟨_,rfl,HX.1,HX.2⟩
    have hjI:(j:Int) < ((F i).q:Int):=by omega
    obtain ⟨ak,rfl,hck,hkr⟩:=(show 0 < (F i).q→∃ a:Addr,pk=some a∧(F i).q≤ck∧∀ j,j < (F i).q→w.cell? (a.add j)=some (.int .i64 ((F i).K j)) from HK2) (by omega)
    obtain ⟨hK,hin',hib⟩:=(show Kn F n∧i < n∧i < b+1 from HKN)
    have hk0:=hK i hin' j hj
    obtain ⟨kn,hkn⟩:∃ kn:Nat,(F i).K j=(kn:Int):=⟨((F i).K j).toNat,by omega⟩
    have qa:=(hg.bl.cell (lt_of_cell' (hkr j hj))).trans (hkr j hj)
    rw [hkn] at qa hk0
    have c1:=hg.ct
    have d0:wr.cell? ⟨w.heap.size+1,0,none⟩=some (.int .i64 (F i).a.k):=by simp [World.cell?,hg.fb]
    rw [hk] at d0
    have d7:wr.cell? ⟨w.heap.size+1,7,none⟩=some (.slice (some an) (F i).p cn):=by simp [World.cell?,hg.fb]
    have hna0:=(show w.cell? (an.add 0)=some (.string ((F i).A 0)) from HNA)
    have d9:wr.cell? (an.add 0)=some (.string ((F i).A 0)):=(hg.bl.cell (lt_of_cell' hna0)).trans hna0
    have d9':wr.cell? an=some (.string ((F i).A 0)):=by simpa [Addr.add] using d9
    clear hna0
    have hdb':=(show d+((b+1:Nat):Int)≤6000 from HDB)
    have hcall:=(show OlS F n b from HIH) kn (hnm (F i)) (hdp (F i) d) wr _ (by omega) (by omega) (by have:=hdp_in (F i) d;omega) (by have:=hdp_in (F i) d;omega) ((show RowF w _ n F from HRF).below hg.bl)
    obtain ⟨L,hL⟩:∃ L,L=ol F b kn (hnm (F i)) (hdp (F i) d):=⟨_,rfl⟩
    rw [← hL,hnm1,hdp1] at hcall
    have hpre:hd (F i) i x d ++ olk (fun k=>ol F b k (hnm (F i)) (hdp (F i) d)) (F i).K (j+1)=pre ++ L:=by
      rw [hpr,hL,List.append_assoc]
      show _ ++ (olk _ _ j ++ ol F b ((F i).K j).toNat _ _) = _
      rw [hkn,Int.toNat_natCast]
    have hlen:pre.length+L.length≤3000:=by
      have hl1:=olk_mono (fun k=>ol F b k (hnm (F i)) (hdp (F i) d)) (F i).K (j+1) (F i).q (by omega)
      have hl2:(hd (F i) i x d ++ olk (fun k=>ol F b k (hnm (F i)) (hdp (F i) d)) (F i).K (F i).q).length≤n:=HLE
      have hl3:=congrArg List.length hpre
      simp only [List.length_append] at hl1 hl2 hl3
      omega
    have HPRE:Hid (hd (F i) i x d ++ olk (fun k=>ol F b k (hnm (F i)) (hdp (F i) d)) (F i).K (j+1)=pre ++ L):=hpre
    have HBEL:Hid (∀ w1,Below wr.heap.size wr w1→Eg w (.slice (some cd) n cf) (F i).a (.slice (some an) (F i).p cn) (.slice (some ak) (F i).q ck) pre (.slice ad pre.length cap) w1):=(fun w1 hb=>hg.below hb:∀ w1,_)
    have hwl:∀ g,(Value.slice ad pre.length cap).ownBlock=some g→g < wr.heap.size:=fun g e=>(hg.row.lt g e).2
    have hwr:=hg.sz
    clear hg hpr hpre hL hK hkr hkn hdb' HRF HIH HLE HKN HK2 HDB
    go_wp2_with fail
    refine hcall.mono ?_
    rintro e w1 ⟨u2,rfl,ho2,b2⟩
    have hsh:∃ (ad2:Option Addr) (cap2:Nat),u2 = .slice ad2 L.length cap2:=by
      rcases ho2.2 with ⟨rfl,e⟩ | ⟨g,cap,cur,rfl,_⟩
      · exact ⟨none,0,by rw [show L.length=0 from e]⟩
      · exact ⟨_,cap,rfl⟩
    obtain ⟨ad2,cap2,rfl⟩:=hsh
    have HE0:Hid (Ein w (.slice (some cd) n cf) (F i).a (.slice (some an) (F i).p cn) (.slice (some ak) (F i).q ck) pre L 0 (.slice ad pre.length cap) (.slice ad2 L.length cap2) w1):=(⟨by simpa using (show ∀ w1,_ from HBEL) w1 b2,ownsRow_mono' ho2 (by omega),fun g e e2=>by have h1:=hwl g e;have h2:=(ho2.lt g e2).1;omega⟩:Ein w (.slice (some cd) n cf) (F i).a (.slice (some an) (F i).p cn) (.slice (some ak) (F i).q ck) pre L 0 _ _ _)
    have hLI:(L.length:Int)≤3000:=by omega
    clear HBEL hwl ho2 b2 hcall c1 d0 qa hwr d7 d9 d9'
    go_wp2_with fail
    go_loopw [10,57] (fun s10 s57 wv=>∃ m:Nat,s57 = .int .i64 (m:Int)∧m≤L.length∧Hid (Ein w (.slice (some cd) n cf) (F i).a (.slice (some an) (F i).p cn) (.slice (some ak) (F i).q ck) pre L m s10 (.slice ad2 L.length cap2) wv)) (fun _ s57 _=>L.length - (intOf s57).toNat)
    case atStart=>exact ⟨0,rfl,Nat.zero_le _,HE0⟩
    case round =>
      clear HE0
      obtain ⟨m,rfl,hml,HE⟩:=hrel
      have hE:=(show Ein w (.slice (some cd) n cf) (F i).a (.slice (some an) (F i).p cn) (.slice (some ak) (F i).q ck) pre L m u10 (.slice ad2 L.length cap2) wr from HE)
      obtain ⟨ad3,cap3,rfl⟩:=hE.eg.shape
      clear HE
      rcases Nat.lt_or_ge m L.length with hm | hm
      case inr =>
        have hmI:¬ (m:Int) < (L.length:Int):=by omega
        have HX:Hid (Eg w (.slice (some cd) n cf) (F i).a (.slice (some an) (F i).p cn) (.slice (some ak) (F i).q ck) (hd (F i) i x d ++ olk (fun k=>ol F b k (hnm (F i)) (hdp (F i) d)) (F i).K (j+1)) (.slice ad3 (pre ++ L.take m).length cap3) wr):=by
          have h1:=hE.eg
          have em:L.take m=L:=List.take_of_length_le hm
          rw [em] at h1 ⊢
          rw [show _ = _ from HPRE]
          exact h1
        clear hE HPRE HI0 HNA
        go_wp2_with fail
        go_roundw
        case rel=>exact ⟨j+1,by go_num,by omega,HX⟩
        case measure=>simp [intOf];omega
      have hmI:(m:Int) < (L.length:Int):=by omega
      obtain ⟨e,he⟩:∃ e,L[m]? = some e:=⟨_,List.getElem?_eq_getElem hm⟩
      obtain ⟨g2,c2,e2,_,_⟩:=hE.inn.form (by omega)
      simp only [Value.slice.injEq] at e2
      obtain ⟨rfl,_,rfl⟩:=e2
      have r:∀ t,t < 4→wr.cell? ⟨g2,m*4+t,none⟩=(ec e)[t]?:=fun t ht=>(hE.inn.cellAt (m*4+t) (by omega)).trans (ec_at he t ht)
      have r0:wr.cell? ⟨g2,m*4,none⟩=some (.string e.x):=r 0 (by omega)
      have r1:wr.cell? ⟨g2,m*4+1,none⟩=some (.int .i64 e.l):=r 1 (by omega)
      have r2:wr.cell? ⟨g2,m*4+2,none⟩=some (.int .i64 e.d):=r 2 (by omega)
      have r3:wr.cell? ⟨g2,m*4+3,none⟩=some (.int .i64 (e.i:Int)):=r 3 (by omega)
      have hkl:(pre ++ L.take m).length+1≤3000:=by rw [List.length_append,List.length_take];omega
      obtain ⟨k,hk9⟩:∃ k,k=(pre ++ L.take m).length:=⟨_,rfl⟩
      have hbs:=hE.eg.sz
      have howna:∀ a b:Obj,((wr.alloc a).alloc b).ownsRow (w.heap.size+2) 84 4 (.slice ad3 k cap3) k ((pre ++ L.take m).flatMap ec):=fun a b=>by
        rw [hk9];exact (hE.eg.row.alloc a).alloc b
      rw [← hk9] at hE hkl ⊢
      have HST : Hid (∀ (g c : Nat) (w2 : World), w2.ownsRow (w.heap.size + 2) 84 4 (.slice (some ⟨g, 0, none⟩) (k + 1) c) (k + 1) ((pre ++ L.take m).flatMap ec ++ [.string e.x, .int .i64 e.l, .int .i64 e.d, .int .i64 (e.i : Int)]) → ((wr.alloc (.cells #[.string e.x, .int .i64 e.l, .int .i64 e.d, .int .i64 (e.i : Int)] 84)).alloc (.cells #[.string e.x, .int .i64 e.l, .int .i64 e.d, .int .i64 (e.i : Int)] 84)).grownBy w2 (Value.slice ad3 k cap3).ownBlock → ((Value.slice ad3 k cap3).ownBlock = some g ∨ g = wr.heap.size + 2) →
          Ein w (.slice (some cd) n cf) (F i).a (.slice (some an) (F i).p cn) (.slice (some ak) (F i).q ck) pre L (m+1) (.slice (some ⟨g,0,none⟩) (k+1) c) (.slice (some ⟨g2,0,none⟩) L.length cap2) w2):=(fun g c w2 ho hgr hl=>hE.step he (bel2 wr _ _) hk9 ho hgr (by simpa using hl):∀ (g c:Nat) (w2:World),_)
      have hqc:∀ (o:Obj) (j:Nat) (u:Value),[(.string e.x:Value),.int .i64 e.l,.int .i64 e.d,.int .i64 (e.i:Int)][j]? = some u→((wr.alloc o).alloc (.cells #[.string e.x,.int .i64 e.l,.int .i64 e.d,.int .i64 (e.i:Int)] 84)).cell? ((⟨wr.heap.size+1,0,none⟩:Addr).add j)=some u:=fun o=>by
        have:=qr_cells (wr.alloc o) #[.string e.x,.int .i64 e.l,.int .i64 e.d,.int .i64 (e.i:Int)] 84 [(.string e.x:Value),.int .i64 e.l,.int .i64 e.d,.int .i64 (e.i:Int)] rfl
        simpa using this
      have h1c:∀ u ∈ [(.string e.x:Value),.int .i64 e.l,.int .i64 e.d,.int .i64 (e.i:Int)],u.oneCell'=true:=by intro u hu;simp at hu;rcases hu with rfl | rfl | rfl | rfl <;> rfl
      clear hE he r hk9 HPRE
      go_wp2_with (at_builtin;refine wpList_append_lies _ rfl (.tmp 61) (.tmp 63) 42 rfl (w.heap.size+2) 84 i0 (.agg #[.string ⟨#[]⟩,.int .i64 0,.int .i64 0,.int .i64 0]) 4 40 Tryz.underlying42 HI0 hz0 hz1 hz2 rfl (by decide) _ _ _ rfl (howna _ _) ⟨wr.heap.size+1,0,none⟩ 1 1 [.string e.x,.int .i64 e.l,.int .i64 e.d,.int .i64 (e.i:Int)] rfl rfl (hqc _) h1c (by decide) (by unfold maxLen;omega) (by omega) (by simp;omega) (wr.heap.size+2) (by simp) ?_;intro g' cap' w2 hown1 hgrow1 hl1 _;have HN:=(show ∀ (g c:Nat) (w2:World),_ from HST) _ _ _ hown1 hgrow1 hl1;have HN':Hid (Ein w (.slice (some cd) n cf) (F i).a (.slice (some an) (F i).p cn) (.slice (some ak) (F i).q ck) pre L (m+1) (.slice (some ⟨g',0,none⟩) (k+1) cap') (.slice (some ⟨g2,0,none⟩) L.length cap2) w2):=HN;clear HN HST hown1 hgrow1 hl1 howna hqc h1c r0 r1 r2 r3)
      go_roundw
      case rel=>exact ⟨m+1,by go_num,by omega,HN'⟩
      case measure=>simp [intOf];omega
theorem sp_ol_0 {F : Nat → Gv} {n b : Nat} (hK : Kn F n) (hz : ∀ j, j < n → szl F n j ≠ 0) (hn : n ≤ 3000) (hq : ∀ i, i < n → (F i).q ≤ 200) (ih : OlS F n b) (i : Nat) (x : ByteArray) (d : Int) (w : World) (v : Value) (hi : i < b + 1) (hin : i < n) (hd0 : 0 ≤ d) (hdb : d + ((b + 1 : Nat) : Int) ≤ 6000) (hf : RowF w v n F) (hk : (F i).a.k ≠ 36) (hk4 : (F i).a.k ≠ 4) :
    Calls Tryz.prog 47 #[.agg #[v],.int .i64 (i:Int),.string x,.int .i64 d] w fun e w'=>∃ u,e = .returned u∧w'.ownsRow w.heap.size 84 4 u (ol F (b+1) i x d).length ((ol F (b+1) i x d).flatMap ec)∧Below w.heap.size w w':=by
  have HRF:Hid (RowF w v n F):=hf
  have HIH:Hid (OlS F n b):=ih
  have HLE:Hid ((ol F (b+1) i x d).length≤n):=ol_le hK hz (b+1) i x d hin
  have HKN:Hid (Kn F n∧i < n∧i < b+1):=(⟨hK,hin,hi⟩:_∧_∧_)
  have hnm1:hnm (F i)=ByteArray.empty:=by unfold hnm;rw [if_neg hk4]
  have hdp1:hdp (F i) d=d:=by unfold hdp;rw [if_neg hk]
  have hhd:hd (F i) i x d = []:=by unfold hd;rw [if_neg hk]
  have hqi:((F i).q:Int)≤200:=by have:=hq i hin;omega
  obtain ⟨pf,cf,rfl,hf2⟩:=hf
  obtain ⟨cd,rfl,hcc,hrc⟩:=hf2 (by omega)
  obtain ⟨vn,vk,hc9,hrn,hrk⟩:=hrc i hin
  obtain ⟨pn,cn,rfl,hn2⟩:=hrn
  obtain ⟨pk,ck,rfl,hk2⟩:=hrk
  obtain ⟨e0,e1,e2,e3,e4,e5,e6,e7,e8⟩:=hc9
  have e0':∀ o:Obj,(w.alloc o).cell? _=some _:=fun o=>((bel1 w o).cell (lt_of_cell' e0)).trans e0
  have e1':∀ o:Obj,(w.alloc o).cell? _=some _:=fun o=>((bel1 w o).cell (lt_of_cell' e1)).trans e1
  have e2':∀ o:Obj,(w.alloc o).cell? _=some _:=fun o=>((bel1 w o).cell (lt_of_cell' e2)).trans e2
  have e3':∀ o:Obj,(w.alloc o).cell? _=some _:=fun o=>((bel1 w o).cell (lt_of_cell' e3)).trans e3
  have e4':∀ o:Obj,(w.alloc o).cell? _=some _:=fun o=>((bel1 w o).cell (lt_of_cell' e4)).trans e4
  have e5':∀ o:Obj,(w.alloc o).cell? _=some _:=fun o=>((bel1 w o).cell (lt_of_cell' e5)).trans e5
  have e6':∀ o:Obj,(w.alloc o).cell? _=some _:=fun o=>((bel1 w o).cell (lt_of_cell' e6)).trans e6
  have e7':∀ o:Obj,(w.alloc o).cell? _=some _:=fun o=>((bel1 w o).cell (lt_of_cell' e7)).trans e7
  have e8':∀ o:Obj,(w.alloc o).cell? _=some _:=fun o=>((bel1 w o).cell (lt_of_cell' e8)).trans e8
  have hnI:(n:Int)≤3000:=by omega
  have hiI:(i:Int) < (n:Int):=by omega
  obtain ⟨i0,hi0,hz0,hz1,hz2⟩:=info_parts infoEnt
  have HI0:Hid (Tryz.prog.info? 84=some i0):=hi0
  have HK2:Hid (0 < (F i).q→∃ a:Addr,pk=some a∧(F i).q≤ck∧∀ j,j < (F i).q→w.cell? (a.add j)=some (.int .i64 ((F i).K j))):=hk2
  have H0:Hid (Eg w (.slice (some cd) n cf) (F i).a (.slice pn (F i).p cn) (.slice pk (F i).q ck) [] (.slice none 0 0) ((w.alloc (.cells #[.slice (some cd) n cf] 31)).alloc (.cells #[.int .i64 (F i).a.k,.int .i64 (F i).a.f,.int .i64 (F i).a.t,.int .i64 (F i).a.l,.int .i64 (F i).a.o,.int .i64 (F i).a.m,.string (F i).a.x,.slice pn (F i).p cn,.slice pk (F i).q ck] 64))):=by
    refine (⟨bel2 w _ _,by simp,?_,?_,World.ownsRow_nil _ _ _ _⟩:Eg w (.slice (some cd) n cf) (F i).a (.slice pn (F i).p cn) (.slice pk (F i).q ck) [] _ _)
    · rw [World.cell?_alloc_past _ _ _ (by simp)];exact cell_new1 w _ _
    · have:=World.alloc_heap_new (w.alloc (.cells #[.slice (some cd) n cf] 31)) (.cells #[.int .i64 (F i).a.k,.int .i64 (F i).a.f,.int .i64 (F i).a.t,.int .i64 (F i).a.l,.int .i64 (F i).a.o,.int .i64 (F i).a.m,.string (F i).a.x,.slice pn (F i).p cn,.slice pk (F i).q ck] 64)
      simpa using this
  have HDB:Hid (d+((b+1:Nat):Int)≤6000):=hdb
  have hd9:d≤6000:=by omega
  clear hf2 hrc hn2 hk2 hK hz hq hn ih hi0 e0 e1 e2 e3 e4 e5 e6 e7 e8 hcc
  have hk36:((F i).a.k == 36)=false:=by simpa using hk
  go_enter Tryz.func47,Tryz.ntmps47
  go_wp2_with fail
  have HN:=H0
  rw [← hhd] at HN
  go_loopw [10,40] (fun s10 s40 wr=>∃ j:Nat,s40 = .int .i64 (j:Int)∧j≤(F i).q∧Hid (Eg w (.slice (some cd) n cf) (F i).a (.slice pn (F i).p cn) (.slice pk (F i).q ck) (hd (F i) i x d ++ olk (fun k=>ol F b k (hnm (F i)) (hdp (F i) d)) (F i).K j) s10 wr)) (fun _ s40 _=>(F i).q - (intOf s40).toNat)
  case atStart=>exact ⟨0,rfl,Nat.zero_le _,by simpa [olk] using HN⟩
  case round =>
    clear HN H0 e0' e1' e2' e3' e4' e5' e6' e7' e8'
    obtain ⟨j,rfl,hjq,HG⟩:=hrel
    obtain ⟨pre,hpr⟩:∃ pre,pre=hd (F i) i x d ++ olk (fun k=>ol F b k (hnm (F i)) (hdp (F i) d)) (F i).K j:=⟨_,rfl⟩
    rw [← hpr] at HG
    have hg:=(show Eg w (.slice (some cd) n cf) (F i).a (.slice pn (F i).p cn) (.slice pk (F i).q ck) pre u10 wr from HG)
    obtain ⟨ad,cap,rfl⟩:=hg.shape
    clear HG
    rcases Nat.lt_or_ge j (F i).q with hj | hj
    case inr =>
      have hjI:¬ (j:Int) < ((F i).q:Int):=by omega
      have HX:Hid (wr.ownsRow w.heap.size 84 4 (.slice ad pre.length cap) (ol F (b+1) i x d).length ((ol F (b+1) i x d).flatMap ec)∧Below w.heap.size w wr):=by
        have ej:j=(F i).q:=by omega
        have e:ol F (b+1) i x d=pre:=by rw [hpr,ej];rfl
        rw [e]
        have q1:wr.ownsRow w.heap.size 84 4 (.slice ad pre.length cap) pre.length (pre.flatMap ec):=ownsRow_mono' hg.row (by omega)
        exact (⟨q1,hg.bl⟩:_∧_)
      clear hg hpr HRF HIH HLE HKN HK2 HI0 HDB
      go_wp2_with fail
      go_ret
      exact ⟨_,rfl,HX.1,HX.2⟩
    have hjI:(j:Int) < ((F i).q:Int):=by omega
    obtain ⟨ak,rfl,hck,hkr⟩:=(show 0 < (F i).q→∃ a:Addr,pk=some a∧(F i).q≤ck∧∀ j,j < (F i).q→w.cell? (a.add j)=some (.int .i64 ((F i).K j)) from HK2) (by omega)
    obtain ⟨hK,hin',hib⟩:=(show Kn F n∧i < n∧i < b+1 from HKN)
    have hk0:=hK i hin' j hj
    obtain ⟨kn,hkn⟩:∃ kn:Nat,(F i).K j=(kn:Int):=⟨((F i).K j).toNat,by omega⟩
    have qa:=(hg.bl.cell (lt_of_cell' (hkr j hj))).trans (hkr j hj)
    rw [hkn] at qa hk0
    have c1:=hg.ct
    have d0:wr.cell? ⟨w.heap.size+1,0,none⟩=some (.int .i64 (F i).a.k):=by simp [World.cell?,hg.fb]
    have hk4f:((F i).a.k == 4)=false:=by simpa using hk4
    have hdb':=(show d+((b+1:Nat):Int)≤6000 from HDB)
    have hcall:=(show OlS F n b from HIH) kn (hnm (F i)) (hdp (F i) d) wr _ (by omega) (by omega) (by have:=hdp_in (F i) d;omega) (by have:=hdp_in (F i) d;omega) ((show RowF w _ n F from HRF).below hg.bl)
    obtain ⟨L,hL⟩:∃ L,L=ol F b kn (hnm (F i)) (hdp (F i) d):=⟨_,rfl⟩
    rw [← hL,hnm1,hdp1] at hcall
    have hpre:hd (F i) i x d ++ olk (fun k=>ol F b k (hnm (F i)) (hdp (F i) d)) (F i).K (j+1)=pre ++ L:=by
      rw [hpr,hL,List.append_assoc]
      show _ ++ (olk _ _ j ++ ol F b ((F i).K j).toNat _ _) = _
      rw [hkn,Int.toNat_natCast]
    have hlen:pre.length+L.length≤3000:=by
      have hl1:=olk_mono (fun k=>ol F b k (hnm (F i)) (hdp (F i) d)) (F i).K (j+1) (F i).q (by omega)
      have hl2:(hd (F i) i x d ++ olk (fun k=>ol F b k (hnm (F i)) (hdp (F i) d)) (F i).K (F i).q).length≤n:=HLE
      have hl3:=congrArg List.length hpre
      simp only [List.length_append] at hl1 hl2 hl3
      omega
    have HPRE:Hid (hd (F i) i x d ++ olk (fun k=>ol F b k (hnm (F i)) (hdp (F i) d)) (F i).K (j+1)=pre ++ L):=hpre
    have HBEL:Hid (∀ w1,Below wr.heap.size wr w1→Eg w (.slice (some cd) n cf) (F i).a (.slice pn (F i).p cn) (.slice (some ak) (F i).q ck) pre (.slice ad pre.length cap) w1):=(fun w1 hb=>hg.below hb:∀ w1,_)
    have hwl:∀ g,(Value.slice ad pre.length cap).ownBlock=some g→g < wr.heap.size:=fun g e=>(hg.row.lt g e).2
    have hwr:=hg.sz
    clear hg hpr hpre hL hK hkr hkn hdb' HRF HIH HLE HKN HK2 HDB
    go_wp2_with fail
    refine hcall.mono ?_
    rintro e w1 ⟨u2,rfl,ho2,b2⟩
    have hsh:∃ (ad2:Option Addr) (cap2:Nat),u2 = .slice ad2 L.length cap2:=by
      rcases ho2.2 with ⟨rfl,e⟩ | ⟨g,cap,cur,rfl,_⟩
      · exact ⟨none,0,by rw [show L.length=0 from e]⟩
      · exact ⟨_,cap,rfl⟩
    obtain ⟨ad2,cap2,rfl⟩:=hsh
    have HE0:Hid (Ein w (.slice (some cd) n cf) (F i).a (.slice pn (F i).p cn) (.slice (some ak) (F i).q ck) pre L 0 (.slice ad pre.length cap) (.slice ad2 L.length cap2) w1):=(⟨by simpa using (show ∀ w1,_ from HBEL) w1 b2,ownsRow_mono' ho2 (by omega),fun g e e2=>by have h1:=hwl g e;have h2:=(ho2.lt g e2).1;omega⟩:Ein w (.slice (some cd) n cf) (F i).a (.slice pn (F i).p cn) (.slice (some ak) (F i).q ck) pre L 0 _ _ _)
    have hLI:(L.length:Int)≤3000:=by omega
    clear HBEL hwl ho2 b2 hcall c1 d0 qa hwr hk4f
    go_wp2_with fail
    go_loopw [10,57] (fun s10 s57 wv=>∃ m:Nat,s57 = .int .i64 (m:Int)∧m≤L.length∧Hid (Ein w (.slice (some cd) n cf) (F i).a (.slice pn (F i).p cn) (.slice (some ak) (F i).q ck) pre L m s10 (.slice ad2 L.length cap2) wv)) (fun _ s57 _=>L.length - (intOf s57).toNat)
    case atStart=>exact ⟨0,rfl,Nat.zero_le _,HE0⟩
    case round =>
      clear HE0
      obtain ⟨m,rfl,hml,HE⟩:=hrel
      have hE:=(show Ein w (.slice (some cd) n cf) (F i).a (.slice pn (F i).p cn) (.slice (some ak) (F i).q ck) pre L m u10 (.slice ad2 L.length cap2) wr from HE)
      obtain ⟨ad3,cap3,rfl⟩:=hE.eg.shape
      clear HE
      rcases Nat.lt_or_ge m L.length with hm | hm
      case inr =>
        have hmI:¬ (m:Int) < (L.length:Int):=by omega
        have HX:Hid (Eg w (.slice (some cd) n cf) (F i).a (.slice pn (F i).p cn) (.slice (some ak) (F i).q ck) (hd (F i) i x d ++ olk (fun k=>ol F b k (hnm (F i)) (hdp (F i) d)) (F i).K (j+1)) (.slice ad3 (pre ++ L.take m).length cap3) wr):=by
          have h1:=hE.eg
          have em:L.take m=L:=List.take_of_length_le hm
          rw [em] at h1 ⊢
          rw [show _ = _ from HPRE]
          exact h1
        clear hE HPRE HI0
        go_wp2_with fail
        go_roundw
        case rel=>exact ⟨j+1,by go_num,by omega,HX⟩
        case measure=>simp [intOf];omega
      have hmI:(m:Int) < (L.length:Int):=by omega
      obtain ⟨e,he⟩:∃ e,L[m]? = some e:=⟨_,List.getElem?_eq_getElem hm⟩
      obtain ⟨g2,c2,e2,_,_⟩:=hE.inn.form (by omega)
      simp only [Value.slice.injEq] at e2
      obtain ⟨rfl,_,rfl⟩:=e2
      have r:∀ t,t < 4→wr.cell? ⟨g2,m*4+t,none⟩=(ec e)[t]?:=fun t ht=>(hE.inn.cellAt (m*4+t) (by omega)).trans (ec_at he t ht)
      have r0:wr.cell? ⟨g2,m*4,none⟩=some (.string e.x):=r 0 (by omega)
      have r1:wr.cell? ⟨g2,m*4+1,none⟩=some (.int .i64 e.l):=r 1 (by omega)
      have r2:wr.cell? ⟨g2,m*4+2,none⟩=some (.int .i64 e.d):=r 2 (by omega)
      have r3:wr.cell? ⟨g2,m*4+3,none⟩=some (.int .i64 (e.i:Int)):=r 3 (by omega)
      have hkl:(pre ++ L.take m).length+1≤3000:=by rw [List.length_append,List.length_take];omega
      obtain ⟨k,hk9⟩:∃ k,k=(pre ++ L.take m).length:=⟨_,rfl⟩
      have hbs:=hE.eg.sz
      have howna:∀ a b:Obj,((wr.alloc a).alloc b).ownsRow (w.heap.size+2) 84 4 (.slice ad3 k cap3) k ((pre ++ L.take m).flatMap ec):=fun a b=>by
        rw [hk9];exact (hE.eg.row.alloc a).alloc b
      rw [← hk9] at hE hkl ⊢
      have HST : Hid (∀ (g c : Nat) (w2 : World), w2.ownsRow (w.heap.size + 2) 84 4 (.slice (some ⟨g, 0, none⟩) (k + 1) c) (k + 1) ((pre ++ L.take m).flatMap ec ++ [.string e.x, .int .i64 e.l, .int .i64 e.d, .int .i64 (e.i : Int)]) → ((wr.alloc (.cells #[.string e.x, .int .i64 e.l, .int .i64 e.d, .int .i64 (e.i : Int)] 84)).alloc (.cells #[.string e.x, .int .i64 e.l, .int .i64 e.d, .int .i64 (e.i : Int)] 84)).grownBy w2 (Value.slice ad3 k cap3).ownBlock → ((Value.slice ad3 k cap3).ownBlock = some g ∨ g = wr.heap.size + 2) →
          Ein w (.slice (some cd) n cf) (F i).a (.slice pn (F i).p cn) (.slice (some ak) (F i).q ck) pre L (m+1) (.slice (some ⟨g,0,none⟩) (k+1) c) (.slice (some ⟨g2,0,none⟩) L.length cap2) w2):=(fun g c w2 ho hgr hl=>hE.step he (bel2 wr _ _) hk9 ho hgr (by simpa using hl):∀ (g c:Nat) (w2:World),_)
      have hqc:∀ (o:Obj) (j:Nat) (u:Value),[(.string e.x:Value),.int .i64 e.l,.int .i64 e.d,.int .i64 (e.i:Int)][j]? = some u→((wr.alloc o).alloc (.cells #[.string e.x,.int .i64 e.l,.int .i64 e.d,.int .i64 (e.i:Int)] 84)).cell? ((⟨wr.heap.size+1,0,none⟩:Addr).add j)=some u:=fun o=>by
        have:=qr_cells (wr.alloc o) #[.string e.x,.int .i64 e.l,.int .i64 e.d,.int .i64 (e.i:Int)] 84 [(.string e.x:Value),.int .i64 e.l,.int .i64 e.d,.int .i64 (e.i:Int)] rfl
        simpa using this
      have h1c:∀ u ∈ [(.string e.x:Value),.int .i64 e.l,.int .i64 e.d,.int .i64 (e.i:Int)],u.oneCell'=true:=by intro u hu;simp at hu;rcases hu with rfl | rfl | rfl | rfl <;> rfl
      clear hE he r hk9 HPRE
      go_wp2_with (at_builtin;refine wpList_append_lies _ rfl (.tmp 61) (.tmp 63) 42 rfl (w.heap.size+2) 84 i0 (.agg #[.string ⟨#[]⟩,.int .i64 0,.int .i64 0,.int .i64 0]) 4 40 Tryz.underlying42 HI0 hz0 hz1 hz2 rfl (by decide) _ _ _ rfl (howna _ _) ⟨wr.heap.size+1,0,none⟩ 1 1 [.string e.x,.int .i64 e.l,.int .i64 e.d,.int .i64 (e.i:Int)] rfl rfl (hqc _) h1c (by decide) (by unfold maxLen;omega) (by omega) (by simp;omega) (wr.heap.size+2) (by simp) ?_;intro g' cap' w2 hown1 hgrow1 hl1 _;have HN:=(show ∀ (g c:Nat) (w2:World),_ from HST) _ _ _ hown1 hgrow1 hl1;have HN':Hid (Ein w (.slice (some cd) n cf) (F i).a (.slice pn (F i).p cn) (.slice (some ak) (F i).q ck) pre L (m+1) (.slice (some ⟨g',0,none⟩) (k+1) cap') (.slice (some ⟨g2,0,none⟩) L.length cap2) w2):=HN;clear HN HST hown1 hgrow1 hl1 howna hqc h1c r0 r1 r2 r3)
      go_roundw
      case rel=>exact ⟨m+1,by go_num,by omega,HN'⟩
      case measure=>simp [intOf];omega
theorem ndk_q {nm fl:ByteArray→Prop} {F:Nat→Gv} {i:Nat} (h:ndk nm fl F i):(F i).q≤200:=h.2.2.2.1
theorem ndk_p4 {nm fl:ByteArray→Prop} {F:Nat→Gv} {i:Nat} (h:ndk nm fl F i) (hk:(F i).a.k=4) : 0 < (F i).p:=by
  have h1:=h.2.2.2.2.2
  rw [shk_4 hk] at h1
  have:=h1.2.1.1
  omega
theorem sp_ol {F:Nat→Gv} {n:Nat} (hK:Kn F n) (hz:∀ j,j < n→szl F n j ≠ 0) (hn:n≤3000) (hnd:∀ j,j < n→ndk nmp flp F j):∀ b,OlS F n b:=by
  intro b
  induction b with
  | zero=>intro i x d w v hi;omega
  | succ b ih =>
    intro i x d w v hi hin hd0 hdb hf
    have hq:∀ i,i < n→(F i).q≤200:=fun i hi=>ndk_q (hnd i hi)
    by_cases hk:(F i).a.k=36
    · exact sp_ol_36 hK hz hn hq ih i x d w v hi hin hd0 hdb hf hk
    · by_cases hk4:(F i).a.k=4
      · exact sp_ol_4 hK hz hn hq ih i x d w v hi hin hd0 hdb hf hk4 (ndk_p4 (hnd i hin) hk4)
      · exact sp_ol_0 hK hz hn hq ih i x d w v hi hin hd0 hdb hf hk hk4
theorem sp_outline {v : Value} {n : Nat} {F : Nat → Gv} {P : List En} (w : World) (hf : RowF w v n F) (hn : n ≤ 1048576) (hp : ∀ i, i < n → (F i).p ≤ 1048576) (hq : ∀ i, i < n → (F i).q ≤ 1048576) (hP : Of F n P) :
    Calls Tryz.prog 20 #[.agg #[v]] w fun e w'=>∃ u,e = .returned u∧w'.ownsRow w.heap.size 84 4 u P.length (P.flatMap ec)∧Below w.heap.size w w':=by
  have HSO:Hid (∀ o:Obj,Calls Tryz.prog 9 #[.agg #[v]] (w.alloc o) fun e w'=>∃ c f,e = .returned (.agg #[.int .i64 c,.int .i64 f])∧Fl nmp flp F n c f∧Below (w.alloc o).heap.size (w.alloc o) w'):=(fun o=>sp_sheet nm_s fl_s (w.alloc o) (hf.below (bel1 _ _)) hn hp hq:∀ o:Obj,_)
  have HRF:Hid (RowF w v n F∧Of F n P):=(⟨hf,hP⟩:_∧_)
  obtain ⟨pf,cf,rfl,_⟩:=hf
  clear hn hp hq hP
  go_enter Tryz.func20,Tryz.ntmps20
  go_wp2_with fail
  refine ((show ∀ o:Obj,_ from HSO) _).mono ?_
  rintro e w1 ⟨c,f,rfl,hfl,b1⟩
  have B1:Below w.heap.size w w1:=(bel1 w _).trans (b1.mono (by simp))
  have c1:w1.cell? ⟨w.heap.size,0,none⟩=some (.slice pf n cf):=(b1.cell (p:=⟨w.heap.size,0,none⟩) (by show w.heap.size < _;simp)).trans (cell_new1 w _ _)
  obtain ⟨hf,hP⟩:=(show RowF w (.slice pf n cf) n F∧Of F n P from HRF)
  clear HSO HRF b1
  by_cases h0:c=0
  case neg =>
    have h0':(c != 0)=true:=bne_iff_ne.2 h0
    have hPe:P = []:=by
      rcases hP with ⟨_,_,_,_,e⟩ | ⟨f',a',_⟩
      · exact e
      · exact absurd (Fl.uniq hfl a').1 h0
    subst hPe
    have HB1:Hid (Below w.heap.size w w1):=B1
    clear hf hP hfl h0 c1 B1
    go_wp2_with fail
    go_ret
    exact ⟨_,rfl,World.ownsRow_nil _ _ _ _,(show Below w.heap.size w w1 from HB1).alloc (show Below w.heap.size w w1 from HB1).size _⟩
  subst h0
  obtain ⟨hn0,hn3,hK,hz,hnd⟩:=fl_sound2 hfl
  have hPe:P=ol F n (n - 1) ByteArray.empty 0:=by
    rcases hP with ⟨c',f',a',b',_⟩ | ⟨f',a',b'⟩
    · exact absurd (Fl.uniq hfl a').1.symm b'
    · exact b'
  have hcall:∀ o:Obj,Calls Tryz.prog 47 #[.agg #[.slice pf n cf],.int .i64 ((n:Int) - 1),.string ByteArray.empty,.int .i64 0] (w1.alloc o) fun e w'=>∃ u,e = .returned u∧w'.ownsRow (w1.alloc o).heap.size 84 4 u P.length (P.flatMap ec)∧Below (w1.alloc o).heap.size (w1.alloc o) w':=fun o=>by
    have:=sp_ol hK hz hn3 hnd n (n - 1) ByteArray.empty 0 (w1.alloc o) (.slice pf n cf) (by omega) (by omega) (by omega) (by omega) (hf.below (B1.trans ((bel1 w1 o).mono B1.size)))
    rw [show ((n - 1:Nat):Int)=(n:Int) - 1 by omega,← hPe] at this
    exact this
  have HC:Hid (∀ o:Obj,Calls Tryz.prog 47 #[.agg #[.slice pf n cf],.int .i64 ((n:Int) - 1),.string ByteArray.empty,.int .i64 0] (w1.alloc o) fun e w'=>∃ u,e = .returned u∧w'.ownsRow (w1.alloc o).heap.size 84 4 u P.length (P.flatMap ec)∧Below (w1.alloc o).heap.size (w1.alloc o) w'):=hcall
  have HB1:Hid (Below w.heap.size w w1):=B1
  have hnI:(n:Int)≤3000:=by omega
  have hnI0 : 0 < (n:Int):=by omega
  have c2:∀ o:Obj,(w1.alloc o).cell? ⟨w.heap.size,0,none⟩=some (.slice pf n cf):=fun o=>((bel1 w1 o).cell (p:=⟨w.heap.size,0,none⟩) (lt_of_cell c1)).trans c1
  clear hf hP hfl hK hz hnd hPe B1 c1 hcall
  go_wp2_with fail
  refine ((show ∀ o:Obj,_ from HC) _).mono ?_
  rintro e w2 ⟨u,rfl,ho,b2⟩
  have B2:Below w.heap.size w w2:=(show Below w.heap.size w w1 from HB1).trans (((bel1 w1 _).trans (b2.mono (by simp))).mono (show Below w.heap.size w w1 from HB1).size)
  have o2:w2.ownsRow w.heap.size 84 4 u P.length (P.flatMap ec):=ownsRow_mono' ho (by have:=(show Below w.heap.size w w1 from HB1).size;simp;omega)
  have HX:Hid (w2.ownsRow w.heap.size 84 4 u P.length (P.flatMap ec)∧Below w.heap.size w w2):=(⟨o2,B2⟩:_∧_)
  clear HC HB1 c2 ho b2 B2 o2
  go_wp2_with fail
  go_ret
  exact ⟨_,rfl,HX.1,HX.2⟩
end Go.Proofs.YtomcmnompajnlaaGreatDoor.Fo
