import Derived.Shelf.Strconv.Clone
import Derived.Test.YtomcmnompajnlaaGreatDoorProg
import Derived.Test.YtomcmnompajnlaaGreatDoorBQua
import Derived.Lib.ConvBytes
import Derived.Lib.AtoiErrMem
import Derived.Lib.AtoiAllMem
import Derived.Laws.Closers25
import Derived.Laws.Closers25b
import Derived.BigCall
import Derived.BigGuard
import Derived.Lib.IfaceNeq
import Derived.Lib.IfaceEq
import Derived.Deep.RegionWith
set_option maxRecDepth 100000
set_option maxHeartbeats 2000000
namespace Go.Proofs.YtomcmnompajnlaaGreatDoor
open Go.Shelf
def renC:Go.Shelf.Ren:=⟨fun | 316=>110 | n=>n,fun | 9=>9 | 3=>3 | 4=>4 | 37=>86 | 0=>0 | 127=>129 | 5=>5 | n=>n,fun | n=>n⟩
theorem laysC:Go.Proofs.LaysM.n316 Tryz.prog renC:={
  mixed:=by kernel_rfl
  f316:=Tryz.func110.trans (congrArg some (by kernel_rfl))
  t0:=Tryz.underlying0
  a0:=Tryz.isAgg0
  z0:=Tryz.sizeOf0
  v0:=Tryz.zeroValue0
  t3:=Tryz.underlying3
  a3:=Tryz.isAgg3
  z3:=Tryz.sizeOf3
  v3:=Tryz.zeroValue3
  t4:=Tryz.underlying4
  a4:=Tryz.isAgg4
  z4:=Tryz.sizeOf4
  v4:=Tryz.zeroValue4
  t9:=Tryz.underlying9
  a9:=Tryz.isAgg9
  z9:=Tryz.sizeOf9
  v9:=Tryz.zeroValue9
  t37:=Tryz.underlying86
  a37:=Tryz.isAgg86
  z37:=Tryz.sizeOf86
  v37:=Tryz.zeroValue86
  t127:=Tryz.underlying129
  a127:=Tryz.isAgg129
  z127:=Tryz.sizeOf129
  v127:=Tryz.zeroValue129
  t5:=Tryz.underlying5
  a5:=Tryz.isAgg5
  z5:=Tryz.sizeOf5
  v5:=Tryz.zeroValue5
  i0:=by kernel_rfl
  i3:=by kernel_rfl
  i4:=by kernel_rfl
  i5:=by kernel_rfl
  i9:=by kernel_rfl
  i37:=by kernel_rfl
  i127:=by kernel_rfl }
open Go.RowKit in
theorem lite_clone (s : ByteArray) (w : World) (hlim : s.size ≤ 281474976710656) :
    Calls Tryz.prog 110 #[.string s] w fun e w'=>e = .returned (.string s)∧Below w.heap.size w w':=Any.stringslite_Clone laysC s w hlim
end Go.Proofs.YtomcmnompajnlaaGreatDoor
namespace Go.Proofs.YtomcmnompajnlaaGreatDoor
open Go.ChangeShapes Go.WideShapes Go.ChangeAt Go.RowKit
set_option linter.unusedVariables false
theorem clone_run (s:ByteArray) (h:s.size≤281474976710656) (w:World):Calls Tryz.prog 76 #[.string s] w fun e w'=>e = .returned (.string s)∧Below w.heap.size w w':=by
  have hc:=lite_clone s w h
  clear h
  go_enter Tryz.func76,Tryz.ntmps76
  go_wp2_with fail
  refine hc.mono ?_
  rintro e w1 ⟨rfl,h1⟩
  clear hc
  go_wp2_with fail
  go_ret
  exact ⟨rfl,h1⟩
structure Gd (w:World):Prop where
  words:w.rangeAt 3 0 wordsA.toList
  marks:w.rangeAt 4 0 marksA.toList
  infx:w.rangeAt 5 0 infixA.toList
  err7:∃ t v,w.cell? ⟨9,0,none⟩=some (.iface t v)
  err6:∃ t v,w.cell? ⟨8,0,none⟩=some (.iface t v)
  size : 10≤w.heap.size
theorem Kb.cell {B:Nat} {a w:World} (h:Kb B a w) (p:Addr) (h1:p.block < a.heap.size) (h2:p.block ≠ B):w.cell? p=a.cell? p:=World.cell?_of_block (h.block p.block h1 h2)
theorem Gd.kb {B:Nat} {a w:World} (h:Gd a) (hB : 10≤B) (hk:Kb B a w):Gd w:=by
  have hs:=h.size
  have e:∀ (g:Nat) (j:Nat),g < 10→w.cell? ⟨g,j,none⟩=a.cell? ⟨g,j,none⟩:=fun g j hg=>hk.cell ⟨g,j,none⟩ (show g < a.heap.size by omega) (show g ≠ B by omega)
  refine ⟨fun j v hv=>?_,fun j v hv=>?_,fun j v hv=>?_,?_,?_,Nat.le_trans hs hk.size⟩
  · rw [e 3 _ (by omega)];exact h.words j v hv
  · rw [e 4 _ (by omega)];exact h.marks j v hv
  · rw [e 5 _ (by omega)];exact h.infx j v hv
  · rw [e 9 0 (by omega)];exact h.err7
  · rw [e 8 0 (by omega)];exact h.err6
theorem tab_index (t n : Nat) (A : Array Value) (hu : Tryz.prog.underlying t = some (.array n 9)) (i : Nat) (hi : i < n) (X : ByteArray) (hg : A[i]? = some (.string X)) (W : World) :
    (Instr.index t (.agg A) (.int .i64 (i:Int))).run Tryz.prog W = .ok (.string X) W:=by
  simp [Instr.index,run_underlying hu,asIntOf,go_sem,Tryz.sizeOf9,part,Tryz.isAgg9,hg]
  intro h
  omega
def Rz (n:Nat) (w:World):Prop:=w.heap[n]? = some (.cells #[.int .i64 0,.int .i64 0,.int .i64 0,.int .i64 0,.int .i64 0,.string ⟨#[]⟩] 179 (0,0))
theorem Rz.lt {n:Nat} {w:World} (h:Rz n w):n < w.heap.size:=(Array.getElem?_eq_some_iff.1 h).1
theorem Rz.kb {B n:Nat} {a w:World} (h:Rz n a) (hk:Kb B a w) (hn:n ≠ B):Rz n w:=(hk.block n h.lt hn).trans h
theorem Rz.new (w:World):Rz w.heap.size (w.alloc (.cells #[.int .i64 0,.int .i64 0,.int .i64 0,.int .i64 0,.int .i64 0,.string ⟨#[]⟩] 179)):=by show (w.heap.push _)[w.heap.size]? = _;simp
def st6 (W:World) (n:Nat) (a b c d e f:Value):World:=((((((W.setCell ⟨n,0,none⟩ a).setCell ⟨n,1,none⟩ b).setCell ⟨n,2,none⟩ c).setCell ⟨n,3,none⟩ d).setCell ⟨n,4,none⟩ e).setCell ⟨n,5,none⟩ f)
theorem st6_heap {W:World} {n:Nat} (h:Rz n W) (a b c d e f:Value):(st6 W n a b c d e f).heap[n]? = some (.cells #[a,b,c,d,e,f] 179 (0,0)):=by
  unfold Rz at h
  simp [st6,World.setCell,Array.getElem?_modify,h]
theorem st6_c0 {W:World} {n:Nat} (h:Rz n W) (a b c d e f:Value):((((((W.setCell ⟨n,0,none⟩ a).setCell ⟨n,1,none⟩ b).setCell ⟨n,2,none⟩ c).setCell ⟨n,3,none⟩ d).setCell ⟨n,4,none⟩ e).setCell ⟨n,5,none⟩ f).cell? ⟨n,0,none⟩=some a:=by
  have:=st6_heap h a b c d e f
  show (st6 W n a b c d e f).cell? ⟨n,0,none⟩=some a
  simp [World.cell?,this]
theorem st6_c1 {W:World} {n:Nat} (h:Rz n W) (a b c d e f:Value):((((((W.setCell ⟨n,0,none⟩ a).setCell ⟨n,1,none⟩ b).setCell ⟨n,2,none⟩ c).setCell ⟨n,3,none⟩ d).setCell ⟨n,4,none⟩ e).setCell ⟨n,5,none⟩ f).cell? ⟨n,1,none⟩=some b:=by
  have:=st6_heap h a b c d e f
  show (st6 W n a b c d e f).cell? ⟨n,1,none⟩=some b
  simp [World.cell?,this]
theorem st6_c2 {W:World} {n:Nat} (h:Rz n W) (a b c d e f:Value):((((((W.setCell ⟨n,0,none⟩ a).setCell ⟨n,1,none⟩ b).setCell ⟨n,2,none⟩ c).setCell ⟨n,3,none⟩ d).setCell ⟨n,4,none⟩ e).setCell ⟨n,5,none⟩ f).cell? ⟨n,2,none⟩=some c:=by
  have:=st6_heap h a b c d e f
  show (st6 W n a b c d e f).cell? ⟨n,2,none⟩=some c
  simp [World.cell?,this]
theorem st6_c3 {W:World} {n:Nat} (h:Rz n W) (a b c d e f:Value):((((((W.setCell ⟨n,0,none⟩ a).setCell ⟨n,1,none⟩ b).setCell ⟨n,2,none⟩ c).setCell ⟨n,3,none⟩ d).setCell ⟨n,4,none⟩ e).setCell ⟨n,5,none⟩ f).cell? ⟨n,3,none⟩=some d:=by
  have:=st6_heap h a b c d e f
  show (st6 W n a b c d e f).cell? ⟨n,3,none⟩=some d
  simp [World.cell?,this]
theorem st6_c4 {W:World} {n:Nat} (h:Rz n W) (a b c d e f:Value):((((((W.setCell ⟨n,0,none⟩ a).setCell ⟨n,1,none⟩ b).setCell ⟨n,2,none⟩ c).setCell ⟨n,3,none⟩ d).setCell ⟨n,4,none⟩ e).setCell ⟨n,5,none⟩ f).cell? ⟨n,4,none⟩=some e:=by
  have:=st6_heap h a b c d e f
  show (st6 W n a b c d e f).cell? ⟨n,4,none⟩=some e
  simp [World.cell?,this]
theorem st6_c5 {W:World} {n:Nat} (h:Rz n W) (a b c d e f:Value):((((((W.setCell ⟨n,0,none⟩ a).setCell ⟨n,1,none⟩ b).setCell ⟨n,2,none⟩ c).setCell ⟨n,3,none⟩ d).setCell ⟨n,4,none⟩ e).setCell ⟨n,5,none⟩ f).cell? ⟨n,5,none⟩=some f:=by
  have:=st6_heap h a b c d e f
  show (st6 W n a b c d e f).cell? ⟨n,5,none⟩=some f
  simp [World.cell?,this]
theorem Rz.c0 {n:Nat} {w:World} (h:Rz n w):w.cell? ⟨n,0,none⟩=some (.int .i64 0):=by unfold Rz at h;simp [World.cell?,h]
theorem Rz.f0 {n:Nat} {w:World} (h:Rz n w):w.frozen? ⟨n,0,none⟩=false:=by unfold Rz at h;simp [World.frozen?,h]
theorem Rz.c1 {n:Nat} {w:World} (h:Rz n w):w.cell? ⟨n,1,none⟩=some (.int .i64 0):=by unfold Rz at h;simp [World.cell?,h]
theorem Rz.f1 {n:Nat} {w:World} (h:Rz n w):w.frozen? ⟨n,1,none⟩=false:=by unfold Rz at h;simp [World.frozen?,h]
theorem Rz.c2 {n:Nat} {w:World} (h:Rz n w):w.cell? ⟨n,2,none⟩=some (.int .i64 0):=by unfold Rz at h;simp [World.cell?,h]
theorem Rz.f2 {n:Nat} {w:World} (h:Rz n w):w.frozen? ⟨n,2,none⟩=false:=by unfold Rz at h;simp [World.frozen?,h]
theorem Rz.c3 {n:Nat} {w:World} (h:Rz n w):w.cell? ⟨n,3,none⟩=some (.int .i64 0):=by unfold Rz at h;simp [World.cell?,h]
theorem Rz.f3 {n:Nat} {w:World} (h:Rz n w):w.frozen? ⟨n,3,none⟩=false:=by unfold Rz at h;simp [World.frozen?,h]
theorem Rz.c4 {n:Nat} {w:World} (h:Rz n w):w.cell? ⟨n,4,none⟩=some (.int .i64 0):=by unfold Rz at h;simp [World.cell?,h]
theorem Rz.f4 {n:Nat} {w:World} (h:Rz n w):w.frozen? ⟨n,4,none⟩=false:=by unfold Rz at h;simp [World.frozen?,h]
theorem Rz.c5 {n:Nat} {w:World} (h:Rz n w):w.cell? ⟨n,5,none⟩=some (.string ⟨#[]⟩):=by unfold Rz at h;simp [World.cell?,h]
theorem Rz.f5 {n:Nat} {w:World} (h:Rz n w):w.frozen? ⟨n,5,none⟩=false:=by unfold Rz at h;simp [World.frozen?,h]
theorem st6_mv {B n:Nat} {T:ByteArray} {k l:Int} {st:Bool} {w W:World} (h:Mv B T k l st w W) (hn:w.heap.size≤n) (hB:n ≠ B) (a b c d e f:Value):Mv B T k l st w (st6 W n a b c d e f):=by
  obtain ⟨h1,h2⟩:=h
  refine ⟨?_,?_⟩
  · exact (((((h1.setNew _ hn _).setNew _ hn _).setNew _ hn _).setNew _ hn _).setNew _ hn _).setNew _ hn _
  · unfold Sb at *
    unfold st6
    repeat rw [Below.heap_setCell _ _ _ _ (by exact fun g=>hB g.symm)]
    exact h2
def Mz (B n:Nat) (T:ByteArray) (k l:Int) (st:Bool) (w w':World):Prop:=Mv B T k l st w w'∧Rz n w'
theorem Mz.trans {B n:Nat} {T:ByteArray} {k l k' l':Int} {st st':Bool} {a b c:World} (h:Mz B n T k l st a b) (g:Mv B T k' l' st' b c) (hn:n ≠ B):Mz B n T k' l' st' a c:=⟨h.1.trans g,h.2.kb g.1 hn⟩
theorem Mz.start {B:Nat} {T:ByteArray} {k l:Int} {st:Bool} {w:World} (h:Sb B T k l st w):Mz B w.heap.size T k l st w (w.alloc (.cells #[.int .i64 0,.int .i64 0,.int .i64 0,.int .i64 0,.int .i64 0,.string ⟨#[]⟩] 179)) :=
  ⟨Mv.below h ((Below.refl _ w).alloc (Nat.le_refl _) _) (Nat.le_refl _),Rz.new w⟩
theorem Mz.set1 {B n:Nat} {T:ByteArray} {k l:Int} {st:Bool} {w w':World} (h:Mz B n T k l st w w') (hn:n ≠ B) (k':Int):Mz B n T k' l st w (w'.setCell ⟨B,1,none⟩ (.int .i64 k')) :=
  ⟨⟨h.1.1.setCell 1 _,h.1.2.set1 k'⟩,by unfold Rz;rw [Below.heap_setCell _ _ _ _ hn];exact h.2⟩
theorem Mz.drewN {B n:Nat} {T:ByteArray} {k l:Int} {st:Bool} {w w':World} (h:Mz B n T k l st w w') (m:Nat):Mz B n T k l st w (w'.drewN m):=⟨⟨h.1.1.drewN m,h.1.2⟩,h.2⟩
theorem impl_word {B : Nat} {T : ByteArray} (L : List UInt8) (hT : T.data.toList = L) {k : Nat} {l : Int} {st : Bool} (hlen : T.size ≤ 65536) (m : Nat) (hk : k ≤ L.length) (hm : Wm (T.extract k (en isW L k)) m) (hB : 10 ≤ B) (w : World) (hg : Gd w) (h : Sb B T k l st w) :
    Calls Tryz.prog 178 #[.pointer (some ⟨B,0,none⟩)] w fun e w'=>e = .returned (tokV (wkI m) 0 0 0 0 (wkT m (T.extract k (en isW L k))))∧Mv B T (en isW L k:Nat) l st w w':=by
  have hs:T.size=L.length:=by rw [← hT];simp
  have HX:IxAll T L:=fun j c hj=>ix T L hT j c hj
  have HIL:Hid (∀ (c:UInt8) (w:World),Calls Tryz.prog 177 #[.int .u8 (c.toNat:Int)] w fun e w'=>e = .returned (.bool (isL c))∧w'=w):=impl_isL
  have HID:Hid (∀ (c:UInt8) (w:World),Calls Tryz.prog 179 #[.int .u8 (c.toNat:Int)] w fun e w'=>e = .returned (.bool (isD c))∧w'=w):=impl_isD
  have HW:Hid (Wm (T.extract k (en isW L k)) m):=hm
  obtain ⟨M,hM,hLM⟩:∃ M:Int,M≤65536∧(L.length:Int)≤M:=⟨L.length,by omega,Int.le_refl _⟩
  have hel:=en_le isW L k hk
  have heg:=en_ge isW L k
  have hcl:Hid (T.size≤65536):=hlen
  have HG:Hid (Gd w):=hg
  have hBlt:B < w.heap.size:=h.lt
  have hnB:w.heap.size ≠ B:=by omega
  have hz:=Mz.start h
  have c1:=hz.1.2.c1
  have HS:Hid (Mz B w.heap.size T k l st w (w.alloc (.cells #[.int .i64 0,.int .i64 0,.int .i64 0,.int .i64 0,.int .i64 0,.string ⟨#[]⟩] 179))):=hz
  clear hT hlen hm hg h hz
  go_enter Tryz.func178,Tryz.ntmps178
  go_wp2_with fail
  clear c1
  go_loopw [] (fun wr=>∃ j:Nat,k≤j∧j≤L.length∧Hid (Mz B w.heap.size T j l st w wr∧en isW L k=en isW L j)) (fun wr=>L.length - atOf B wr)
  case atStart=>exact ⟨k,Nat.le_refl _,hk,(⟨HS,rfl⟩:Mz B w.heap.size T k l st w (w.alloc (.cells #[.int .i64 0,.int .i64 0,.int .i64 0,.int .i64 0,.int .i64 0,.string ⟨#[]⟩] 179))∧en isW L k=en isW L k)⟩
  case round =>
    clear HS
    obtain ⟨j,hkj,hj,HR⟩:=hrel
    obtain ⟨hK,hE⟩:=(show Mz B w.heap.size T j l st w wr∧en isW L k=en isW L j from HR)
    clear HR
    have hat:=atOf_sb hK.1.2
    have hjM:(j:Int)≤M:=by omega
    have b0:=hK.1.2.c0
    have b1:=hK.1.2.c1
    have f1:=hK.1.2.fz 1
    by_cases hjn:j < L.length∧isW (lk L j)=true
    · obtain ⟨hjn,hgo⟩:=hjn
      have hx:L[j]? = some (lk L j):=by
        have:=List.getElem?_eq_getElem hjn
        rw [lk_some this];exact this
      have hix:=HX j _ hx
      have he:=ended_in B T j l st false (by simp;omega) wr hK.1.2
      have hlet:=(show ∀ (c:UInt8) (w:World),_ from HIL) (lk L j)
      have hdig:=(show ∀ (c:UInt8) (w:World),_ from HID) (lk L j)
      have HN:Hid (∀ q,Mz B w.heap.size T ((j+1:Nat):Int) l st w ((wr.drewN q).setCell ⟨B,1,none⟩ (.int .i64 ((j:Int)+1)))∧en isW L k=en isW L (j+1)) :=
        (fun q=>⟨(hK.drewN q).set1 hnB _,hE.trans (en_step hx hgo)⟩:∀ q,Mz B w.heap.size T ((j+1:Nat):Int) l st w ((wr.drewN q).setCell ⟨B,1,none⟩ (.int .i64 ((j:Int)+1)))∧en isW L k=en isW L (j+1))
      clear hK hE HW HIL HID HG hcl hx HX hel heg
      cases hlv:isL (lk L j) with
      | true =>
        rw [hlv] at hlet
        clear hgo hlv hdig
        generalize ((lk L j).toNat:Int)=xi at *
        go_wp2_with fail
        go_quiet ((first | (go_at_call 171;exact he _) | (go_at_call 177;exact Calls.quiet_of_same (hlet _))))
        go_wp2_with fail
        have hN:=(show ∀ q,_ from HN) nq
        refine ⟨⟨j+1,by omega,by omega,hN⟩,?_⟩
        rw [atOf_sb hN.1.1.2,hat]
        omega
      | false =>
        rw [hlv] at hlet
        rw [isW_of _ hlv] at hgo
        rw [hgo] at hdig
        clear hgo hlv
        generalize ((lk L j).toNat:Int)=xi at *
        go_wp2_with fail
        go_quiet ((first | (go_at_call 171;exact he _) | (go_at_call 177;exact Calls.quiet_of_same (hlet _)) | (go_at_call 179;exact Calls.quiet_of_same (hdig _))))
        go_wp2_with fail
        have hN:=(show ∀ q,_ from HN) nq
        refine ⟨⟨j+1,by omega,by omega,hN⟩,?_⟩
        rw [atOf_sb hN.1.1.2,hat]
        omega
    · have e : en isW L k = j := by
        rw [hE]
        rcases Nat.lt_or_ge j L.length with h | h
        · have hg:=List.getElem?_eq_getElem h
          exact en_stop (x:=lk L j) (by rw [lk_some hg];exact hg) (by simp at hjn;exact hjn h)
        · exact en_end h
      have hsl:∀ W:World,(Instr.slice 9 (.string T) (some (.int .i64 (k:Int))) (some (.int .i64 (j:Int))) none).run Tryz.prog W = .ok (.string (T.extract k j)) W:=by
        intro W
        rw [run_slice_string (P:=Tryz.prog) W 9 T .i64 .i64 (k:Int) (j:Int) Tryz.underlying9 (by omega) (by omega) (by omega)]
        simp
      rw [e] at HW
      have HE:Hid (en isW L k=j):=e
      have HKH:Hid (Mz B w.heap.size T j l st w wr):=hK
      have HSB:Hid (Sb B T j l st wr):=hK.1.2
      have hfin:Hid (∀ W,Mz B w.heap.size T j l st wr W→True):=(fun _ _=>trivial:∀ W,Mz B w.heap.size T j l st wr W→True)
      have HGr:Hid (Gd wr):=(show Gd w from HG).kb hB hK.1.1
      clear HG hfin hel heg hE
      have behind:∀ nq:Nat,∃ W:World,W=wr.drewN nq∧Mz B w.heap.size T j l st w W∧Gd W:=fun nq=>⟨_,rfl,hK.drewN nq,⟨HGr.words,HGr.marks,HGr.infx,HGr.err7,HGr.err6,HGr.size⟩⟩
      have HBH:Hid (∀ nq:Nat,∃ W:World,W=wr.drewN nq∧Mz B w.heap.size T j l st w W∧Gd W):=behind
      clear behind HGr hK HKH
      rcases Nat.lt_or_ge j L.length with hjl | hjl
      · have hx : L[j]? = some (lk L j) := by
          have:=List.getElem?_eq_getElem hjl
          rw [lk_some this];exact this
        have hW0:isW (lk L j)=false:=by simp at hjn;exact hjn hjl
        have hlv:isL (lk L j)=false:=by unfold isW at hW0;simp at hW0;exact hW0.1
        have hdv:isD (lk L j)=false:=by unfold isW at hW0;simp at hW0;exact hW0.2
        have hix:=HX j _ hx
        have he:=ended_in B T j l st false (by simp;omega) wr (show Sb B T j l st wr from HSB)
        have hlet:=(show ∀ (c:UInt8) (w:World),_ from HIL) (lk L j)
        have hdig:=(show ∀ (c:UInt8) (w:World),_ from HID) (lk L j)
        rw [hlv] at hlet
        rw [hdv] at hdig
        clear HX HIL HID hx hW0 hlv hdv hjn e HSB
        generalize ((lk L j).toNat:Int)=xi at *
        go_wp2_with fail
        go_quiet ((first | (go_at_call 171;exact he _) | (go_at_call 177;exact Calls.quiet_of_same (hlet _)) | (go_at_call 179;exact Calls.quiet_of_same (hdig _))))
        go_wp2_with fail
        clear he hlet hdig hix
        obtain ⟨W,hWe,hKW,hGW⟩:=(show ∀ nq:Nat,∃ W:World,W=wr.drewN nq∧Mz B w.heap.size T j l st w W∧Gd W from HBH) nq
        rw [← hWe]
        clear HBH b0 b1 f1 hat hWe
        have b0:=hKW.1.2.c0
        have b1:=hKW.1.2.c1
        have HKW:Hid (Mz B w.heap.size T j l st w W∧Gd W):=(⟨hKW,hGW⟩:_∧_)
        clear hKW hGW
        go_quiet (fail)
        obtain ⟨W2,hWe2,HK2⟩:∃ W2:World,W2=W.drewN nq∧Hid (Mz B w.heap.size T j l st w W2∧Gd W2):=⟨_,rfl,(⟨HKW.1.drewN nq,⟨HKW.2.words,HKW.2.marks,HKW.2.infx,HKW.2.err7,HKW.2.err6,HKW.2.size⟩⟩:_∧_)⟩
        rw [← hWe2]
        clear hWe2 b0 b1 HKW
        have HRG:Hid (W2.rangeAt 3 0 wordsA.toList):=HK2.2.words
        go_wp2_with (refine wpList_load_mid rfl 210 (.global 3) rfl 3 0 rfl wordsA.toList _ HRG Tryz.underlying210 rfl (by kernel_rfl) ?_)
        clear HRG
        obtain ⟨hm22,hneq,hlast⟩:=(show Wm (T.extract k j) m from HW)
        clear HW
        have HNQ:Hid (∀ j',j' < m→((wordsB j').toList == (T.extract k j).toList)=false):=hneq
        have HLA:Hid (m=22∨((wordsB m).toList == (T.extract k j).toList)=true):=hlast
        clear hneq hlast
        go_loop [67] (fun a=>∃ i:Nat,a = .int .i64 i∧i≤m) (fun a=>22 - (intOf a).toNat)
        case atStart=>exact ⟨0,rfl,Nat.zero_le _⟩
        case round =>
          obtain ⟨i,rfl,him⟩:=hrel
          by_cases hi:i < m
          · have hc:=(show ∀ j',j' < m→((wordsB j').toList == (T.extract k j).toList)=false from HNQ) i hi
            have hgi:=tab_index 210 22 wordsA Tryz.underlying210 i (by omega) _ (words_get i (by omega))
            have hi22:(i:Int) < 22:=by omega
            clear HNQ HLA HE HK2 hcl
            generalize wordsB i=X at *
            generalize T.extract k j=S at *
            go_wp2_with fail
            refine ⟨⟨i+1,by go_num,by omega⟩,?_⟩
            simp [intOf];omega
          · obtain rfl:i=m:=by omega
            by_cases h22:i=22
            · have ek:wkI i=1:=by unfold wkI;rw [if_neg (by omega)]
              have et:wkT i (T.extract k j)=T.extract k j:=by unfold wkT;rw [if_neg (by omega)]
              have HF:Hid (tokV 1 0 0 0 0 (T.extract k j)=tokV (wkI i) 0 0 0 0 (wkT i (T.extract k (en isW L k)))∧en isW L k=j):=by
                show _∧_
                rw [show en isW L k=j from HE,ek,et]
                exact ⟨rfl,rfl⟩
              have hsize:(T.extract k j).size≤281474976710656:=by rw [ByteArray.size_extract];have:=(show T.size≤65536 from hcl);omega
              have hcc:=clone_run (T.extract k j) hsize W2
              have hiN:¬ (i:Int) < 22:=by omega
              clear HNQ HLA HE ek et hsize hcl h22
              generalize T.extract k j=S at *
              go_wp2_with fail
              refine hcc.mono ?_
              rintro e W3 ⟨rfl,hb3⟩
              obtain ⟨HK3,z3⟩:Mv B T j l st w W3∧Rz w.heap.size W3:=by
                have h3:=HK2.1.trans (Mv.below HK2.1.1.2 hb3 (Nat.le_refl _)) hnB
                exact ⟨h3.1,h3.2⟩
              have HKH3:Hid (Mv B T j l st w W3):=HK3
              have g0:=z3.c0
              have g1:=z3.c1
              have g2:=z3.c2
              have g3:=z3.c3
              have g4:=z3.c4
              have g5:=z3.c5
              have y0:=z3.f0
              have y1:=z3.f1
              have y2:=z3.f2
              have y3:=z3.f3
              have y4:=z3.f4
              have y5:=z3.f5
              have e0:=st6_c0 z3
              have e1:=st6_c1 z3
              have e2:=st6_c2 z3
              have e3:=st6_c3 z3
              have e4:=st6_c4 z3
              have e5:=st6_c5 z3
              have HE6:Hid (True):=trivial
              clear hcc hb3 HK2 HK3 z3
              go_wp2_with fail
              refine bodyPost_ret (by simp [results,Tryz.results178,go_sem,e0,e1,e2,e3,e4,e5];rfl) rfl ?_
              refine ⟨congrArg Ending.returned HF.1,?_⟩
              rw [HF.2]
              exact st6_mv HKH3 (Nat.le_refl _) hnB _ _ _ _ _ _
            · have hc:=(show i=22∨((wordsB i).toList == (T.extract k j).toList)=true from HLA).resolve_left h22
              have hgi:=tab_index 210 22 wordsA Tryz.underlying210 i (by omega) _ (words_get i (by omega))
              have hi22:(i:Int) < 22:=by omega
              have ek:wkI i=10+(i:Int):=by unfold wkI;rw [if_pos (by omega)]
              have et:wkT i (T.extract k j)=⟨#[]⟩:=by unfold wkT;rw [if_pos (by omega)]
              have HF:Hid (tokV (10+(i:Int)) 0 0 0 0 ⟨#[]⟩=tokV (wkI i) 0 0 0 0 (wkT i (T.extract k (en isW L k)))∧en isW L k=j):=by
                show _∧_
                rw [show en isW L k=j from HE,ek,et]
                exact ⟨rfl,rfl⟩
              have HKH3:Hid (Mv B T j l st w W2):=HK2.1.1
              have z3:=HK2.1.2
              have g0:=z3.c0
              have g1:=z3.c1
              have g2:=z3.c2
              have g3:=z3.c3
              have g4:=z3.c4
              have g5:=z3.c5
              have y0:=z3.f0
              have y1:=z3.f1
              have y2:=z3.f2
              have y3:=z3.f3
              have y4:=z3.f4
              have y5:=z3.f5
              have e0:=st6_c0 z3
              have e1:=st6_c1 z3
              have e2:=st6_c2 z3
              have e3:=st6_c3 z3
              have e4:=st6_c4 z3
              have e5:=st6_c5 z3
              clear HNQ HLA HE ek et HK2 z3 hcl h22
              generalize wordsB i=X at *
              generalize T.extract k j=S at *
              go_wp2_with fail
              refine bodyPost_ret (by simp [results,Tryz.results178,go_sem,e0,e1,e2,e3,e4,e5];rfl) rfl ?_
              refine ⟨congrArg Ending.returned HF.1,?_⟩
              rw [HF.2]
              exact st6_mv HKH3 (Nat.le_refl _) hnB _ _ _ _ _ _
      · have he:=ended_in B T j l st true (by simp;omega) wr (show Sb B T j l st wr from HSB)
        clear HX HIL HID hjn e HSB
        go_wp2_with fail
        go_quiet ((first | (go_at_call 171;exact he _)))
        go_wp2_with fail
        clear he
        obtain ⟨W,hWe,hKW,hGW⟩:=(show ∀ nq:Nat,∃ W:World,W=wr.drewN nq∧Mz B w.heap.size T j l st w W∧Gd W from HBH) nq
        rw [← hWe]
        clear HBH b0 b1 f1 hat hWe
        have b0:=hKW.1.2.c0
        have b1:=hKW.1.2.c1
        have HKW:Hid (Mz B w.heap.size T j l st w W∧Gd W):=(⟨hKW,hGW⟩:_∧_)
        clear hKW hGW
        go_quiet (fail)
        obtain ⟨W2,hWe2,HK2⟩:∃ W2:World,W2=W.drewN nq∧Hid (Mz B w.heap.size T j l st w W2∧Gd W2):=⟨_,rfl,(⟨HKW.1.drewN nq,⟨HKW.2.words,HKW.2.marks,HKW.2.infx,HKW.2.err7,HKW.2.err6,HKW.2.size⟩⟩:_∧_)⟩
        rw [← hWe2]
        clear hWe2 b0 b1 HKW
        have HRG:Hid (W2.rangeAt 3 0 wordsA.toList):=HK2.2.words
        go_wp2_with (refine wpList_load_mid rfl 210 (.global 3) rfl 3 0 rfl wordsA.toList _ HRG Tryz.underlying210 rfl (by kernel_rfl) ?_)
        clear HRG
        obtain ⟨hm22,hneq,hlast⟩:=(show Wm (T.extract k j) m from HW)
        clear HW
        have HNQ:Hid (∀ j',j' < m→((wordsB j').toList == (T.extract k j).toList)=false):=hneq
        have HLA:Hid (m=22∨((wordsB m).toList == (T.extract k j).toList)=true):=hlast
        clear hneq hlast
        go_loop [67] (fun a=>∃ i:Nat,a = .int .i64 i∧i≤m) (fun a=>22 - (intOf a).toNat)
        case atStart=>exact ⟨0,rfl,Nat.zero_le _⟩
        case round =>
          obtain ⟨i,rfl,him⟩:=hrel
          by_cases hi:i < m
          · have hc:=(show ∀ j',j' < m→((wordsB j').toList == (T.extract k j).toList)=false from HNQ) i hi
            have hgi:=tab_index 210 22 wordsA Tryz.underlying210 i (by omega) _ (words_get i (by omega))
            have hi22:(i:Int) < 22:=by omega
            clear HNQ HLA HE HK2 hcl
            generalize wordsB i=X at *
            generalize T.extract k j=S at *
            go_wp2_with fail
            refine ⟨⟨i+1,by go_num,by omega⟩,?_⟩
            simp [intOf];omega
          · obtain rfl:i=m:=by omega
            by_cases h22:i=22
            · have ek:wkI i=1:=by unfold wkI;rw [if_neg (by omega)]
              have et:wkT i (T.extract k j)=T.extract k j:=by unfold wkT;rw [if_neg (by omega)]
              have HF:Hid (tokV 1 0 0 0 0 (T.extract k j)=tokV (wkI i) 0 0 0 0 (wkT i (T.extract k (en isW L k)))∧en isW L k=j):=by
                show _∧_
                rw [show en isW L k=j from HE,ek,et]
                exact ⟨rfl,rfl⟩
              have hsize:(T.extract k j).size≤281474976710656:=by rw [ByteArray.size_extract];have:=(show T.size≤65536 from hcl);omega
              have hcc:=clone_run (T.extract k j) hsize W2
              have hiN:¬ (i:Int) < 22:=by omega
              clear HNQ HLA HE ek et hsize hcl h22
              generalize T.extract k j=S at *
              go_wp2_with fail
              refine hcc.mono ?_
              rintro e W3 ⟨rfl,hb3⟩
              obtain ⟨HK3,z3⟩:Mv B T j l st w W3∧Rz w.heap.size W3:=by
                have h3:=HK2.1.trans (Mv.below HK2.1.1.2 hb3 (Nat.le_refl _)) hnB
                exact ⟨h3.1,h3.2⟩
              have HKH3:Hid (Mv B T j l st w W3):=HK3
              have g0:=z3.c0
              have g1:=z3.c1
              have g2:=z3.c2
              have g3:=z3.c3
              have g4:=z3.c4
              have g5:=z3.c5
              have y0:=z3.f0
              have y1:=z3.f1
              have y2:=z3.f2
              have y3:=z3.f3
              have y4:=z3.f4
              have y5:=z3.f5
              have e0:=st6_c0 z3
              have e1:=st6_c1 z3
              have e2:=st6_c2 z3
              have e3:=st6_c3 z3
              have e4:=st6_c4 z3
              have e5:=st6_c5 z3
              have HE6:Hid (True):=trivial
              clear hcc hb3 HK2 HK3 z3
              go_wp2_with fail
              refine bodyPost_ret (by simp [results,Tryz.results178,go_sem,e0,e1,e2,e3,e4,e5];rfl) rfl ?_
              refine ⟨congrArg Ending.returned HF.1,?_⟩
              rw [HF.2]
              exact st6_mv HKH3 (Nat.le_refl _) hnB _ _ _ _ _ _
            · have hc:=(show i=22∨((wordsB i).toList == (T.extract k j).toList)=true from HLA).resolve_left h22
              have hgi:=tab_index 210 22 wordsA Tryz.underlying210 i (by omega) _ (words_get i (by omega))
              have hi22:(i:Int) < 22:=by omega
              have ek:wkI i=10+(i:Int):=by unfold wkI;rw [if_pos (by omega)]
              have et:wkT i (T.extract k j)=⟨#[]⟩:=by unfold wkT;rw [if_pos (by omega)]
              have HF:Hid (tokV (10+(i:Int)) 0 0 0 0 ⟨#[]⟩=tokV (wkI i) 0 0 0 0 (wkT i (T.extract k (en isW L k)))∧en isW L k=j):=by
                show _∧_
                rw [show en isW L k=j from HE,ek,et]
                exact ⟨rfl,rfl⟩
              have HKH3:Hid (Mv B T j l st w W2):=HK2.1.1
              have z3:=HK2.1.2
              have g0:=z3.c0
              have g1:=z3.c1
              have g2:=z3.c2
              have g3:=z3.c3
              have g4:=z3.c4
              have g5:=z3.c5
              have y0:=z3.f0
              have y1:=z3.f1
              have y2:=z3.f2
              have y3:=z3.f3
              have y4:=z3.f4
              have y5:=z3.f5
              have e0:=st6_c0 z3
              have e1:=st6_c1 z3
              have e2:=st6_c2 z3
              have e3:=st6_c3 z3
              have e4:=st6_c4 z3
              have e5:=st6_c5 z3
              clear HNQ HLA HE ek et HK2 z3 hcl h22
              generalize wordsB i=X at *
              generalize T.extract k j=S at *
              go_wp2_with fail
              refine bodyPost_ret (by simp [results,Tryz.results178,go_sem,e0,e1,e2,e3,e4,e5];rfl) rfl ?_
              refine ⟨congrArg Ending.returned HF.1,?_⟩
              rw [HF.2]
              exact st6_mv HKH3 (Nat.le_refl _) hnB _ _ _ _ _ _
def opsL:List (List UInt8):=[[],[43],[45],[42],[47],[47,47],[37],[38],[124],[126],[60,60],[62,62],[46,46],[61,61],[126,61],[60],[60,61],[62],[62,61]]
def opsB (i:Nat):ByteArray:=⟨(opsL.getD i []).toArray⟩
def opsA:Array Value:=(opsL.map (fun x=>Value.string ⟨x.toArray⟩)).toArray
theorem ops_len:opsL.length=19:=by decide
theorem ops_get (i:Nat) (hi:i < 19):opsA[i]? = some (.string (opsB i)):=by
  have h:i < opsL.length:=by rw [ops_len];exact hi
  simp [opsA,opsB,List.getElem?_eq_getElem h]
def sgnL:List (List UInt8):=[[46,46,46],[46,46],[46],[60,60],[60,61],[60],[62,62],[62,61],[62],[61,61],[61],[126,61],[126],[47,47],[47],[40],[41],[123],[125],[91],[93],[44],[59],[35],[43],[45],[42],[37],[38],[124]]
def sgnB (i:Nat):ByteArray:=⟨(sgnL.getD i []).toArray⟩
def sgnA:Array Value:=(sgnL.map (fun x=>Value.string ⟨x.toArray⟩)).toArray
theorem sgn_len:sgnL.length=30:=by decide
theorem sgn_get (i:Nat) (hi:i < 30):sgnA[i]? = some (.string (sgnB i)):=by
  have h:i < sgnL.length:=by rw [sgn_len];exact hi
  simp [sgnA,sgnB,List.getElem?_eq_getElem h]
theorem sgn_list (i:Nat):(sgnB i).data.toList=sgnL.getD i []:=by simp [sgnB]
def Fm (f:Nat→ByteArray) (N:Nat) (S:ByteArray) (m:Nat):Prop:=m≤N∧(∀ j,j < m→((f j).toList == S.toList)=false)∧(m=N∨((f m).toList == S.toList)=true)
theorem fm_any (f:Nat→ByteArray) (N:Nat) (S:ByteArray):∃ m,Fm f N S m:=by
  have key:∀ n,n≤N→(∃ m,m < n∧(∀ j,j < m→((f j).toList == S.toList)=false)∧((f m).toList == S.toList)=true)∨(∀ j,j < n→((f j).toList == S.toList)=false):=by
    intro n
    induction n with
    | zero=>intro _;right;intro j hj;omega
    | succ n ih =>
      intro hn
      rcases ih (by omega) with ⟨m,h1,h2,h3⟩ | h
      · left;exact ⟨m,by omega,h2,h3⟩
      · cases hc:((f n).toList == S.toList) with
        | true=>left;exact ⟨n,by omega,h,hc⟩
        | false =>
          right
          intro j hj
          by_cases e:j=n
          · subst e;exact hc
          · exact h j (by omega)
  rcases key N (Nat.le_refl _) with ⟨m,h1,h2,h3⟩ | h
  · exact ⟨m,by omega,h2,.inr h3⟩
  · exact ⟨N,Nat.le_refl _,h,.inl rfl⟩
theorem ops_infix (j:Nat):opsB (j+1)=infixB j:=by
  unfold opsB infixB
  rfl
def kS (a b:Nat):Int:=if a < 18 then 61+a else if b < 11 then 40+b else 5
def kI (s1 s2:Bool) (a b:Nat):Int:=if s1 then 5 else if s2 then 7 else if b < 11 then 40+b else if a < 18 then 61+a else 0
theorem bel2 (w:World) (a b:Obj):Below w.heap.size w ((w.alloc a).alloc b):=((Below.refl _ w).alloc (Nat.le_refl _) _).alloc (by simp) _
theorem spec_signs (w:World):Calls Tryz.prog 146 #[] w fun e w'=>e = .returned (.slice (some ⟨w.heap.size,0,none⟩) 30 30)∧w'=w.alloc (.cells sgnA 9):=by
  go_enter Tryz.func146,Tryz.ntmps146
  go_wp2
  go_ret
  exact ⟨rfl,rfl⟩
theorem opsA_lit:opsA = #[.string ⟨#[]⟩,.string ⟨#[43]⟩,.string ⟨#[45]⟩,.string ⟨#[42]⟩,.string ⟨#[47]⟩,.string ⟨#[47,47]⟩,.string ⟨#[37]⟩,.string ⟨#[38]⟩,.string ⟨#[124]⟩,.string ⟨#[126]⟩,.string ⟨#[60,60]⟩,.string ⟨#[62,62]⟩,.string ⟨#[46,46]⟩,.string ⟨#[61,61]⟩,.string ⟨#[126,61]⟩,.string ⟨#[60]⟩,.string ⟨#[60,61]⟩,.string ⟨#[62]⟩,.string ⟨#[62,61]⟩]:=rfl
theorem marksA_lit:marksA = #[.string ⟨#[40]⟩,.string ⟨#[41]⟩,.string ⟨#[123]⟩,.string ⟨#[125]⟩,.string ⟨#[91]⟩,.string ⟨#[93]⟩,.string ⟨#[44]⟩,.string ⟨#[61]⟩,.string ⟨#[46]⟩,.string ⟨#[46,46,46]⟩,.string ⟨#[35]⟩]:=rfl
theorem spec_sign (S : ByteArray) (a b : Nat) (ha : Fm infixB 18 S a) (hb : Fm marksB 11 S b) (w : World) :
    Calls Tryz.prog 147 #[.string S] w fun e w'=>e = .returned (.int .i64 (kS a b))∧Below w.heap.size w w':=by
  have HA:Hid (Fm infixB 18 S a):=ha
  have HB:Hid (Fm marksB 11 S b):=hb
  clear ha hb
  go_enter Tryz.func147,Tryz.ntmps147
  go_wp2_with fail
  rw [← opsA_lit]
  go_wp2_with fail
  go_loop [4] (fun v=>∃ i:Nat,v = .int .i64 ((i+1:Nat):Int)∧i≤a) (fun v=>19 - (intOf v).toNat)
  case atStart=>exact ⟨0,rfl,Nat.zero_le _⟩
  case round =>
    obtain ⟨i,rfl,hia⟩:=hrel
    obtain ⟨h18,hneq,hlast⟩:=(show Fm infixB 18 S a from HA)
    by_cases hi:i < a
    · have hc:=hneq i hi
      have hg:=ops_get (i+1) (by omega)
      rw [ops_infix] at hg
      have hi18:(i:Int)+1 < 19:=by omega
      clear HA HB hneq hlast
      generalize infixB i=X at *
      go_wp2_with fail
      refine ⟨⟨i+1,by go_num,by omega⟩,?_⟩
      simp [intOf];omega
    · obtain rfl:i=a:=by omega
      by_cases h:i=18
      · have hn:¬ (i:Int)+1 < 19:=by omega
        obtain ⟨h11,hneqb,hlastb⟩:=(show Fm marksB 11 S b from HB)
        have HNB:Hid (∀ j,j < b→((marksB j).toList == S.toList)=false):=hneqb
        have HLB:Hid (b=11∨((marksB b).toList == S.toList)=true):=hlastb
        have HK:Hid (kS i b=if b < 11 then 40+(b:Int) else 5):=by show kS i b = _;unfold kS;rw [if_neg (by omega)]
        clear HA HB hneq hlast hneqb hlastb h
        go_wp2_with fail
        rw [← marksA_lit]
        go_wp2_with fail
        go_loop [26] (fun v=>∃ j:Nat,v = .int .i64 j∧j≤b) (fun v=>11 - (intOf v).toNat)
        case atStart=>exact ⟨0,rfl,Nat.zero_le _⟩
        case round =>
          obtain ⟨j,rfl,hjb⟩:=hrel
          by_cases hj:j < b
          · have hc:=(show ∀ j,j < b→((marksB j).toList == S.toList)=false from HNB) j hj
            have hg:=marks_get j (by omega)
            have hj11:(j:Int) < 11:=by omega
            clear HNB HLB HK
            generalize marksB j=X at *
            go_wp2_with fail
            refine ⟨⟨j+1,by go_num,by omega⟩,?_⟩
            simp [intOf];omega
          · obtain rfl:j=b:=by omega
            by_cases hb11:j=11
            · have hn2:¬ (j:Int) < 11:=by omega
              have HK2:Hid (kS i j=5):=by show kS i j=5;rw [show kS i j=if j < 11 then 40+(j:Int) else 5 from HK,if_neg (by omega)]
              clear HNB HLB HK hb11
              go_wp2_with fail
              go_ret
              exact ⟨by rw [show kS i j=5 from HK2];rfl,bel2 w _ _⟩
            · have hc:=(show j=11∨((marksB j).toList == S.toList)=true from HLB).resolve_left hb11
              have hg:=marks_get j (by omega)
              have hj11:(j:Int) < 11:=by omega
              have HK2:Hid (kS i j=40+(j:Int)):=by show kS i j = _;rw [show kS i j=if j < 11 then 40+(j:Int) else 5 from HK,if_pos (by omega)]
              clear HNB HLB HK
              generalize marksB j=X at *
              go_wp2_with fail
              go_ret
              exact ⟨by rw [show kS i j=40+(j:Int) from HK2];rfl,bel2 w _ _⟩
      · have hc:=hlast.resolve_left h
        have hg:=ops_get (i+1) (by omega)
        rw [ops_infix] at hg
        have hi18:(i:Int)+1 < 19:=by omega
        have HK2:Hid (kS i b=60+((i:Int)+1)):=by show kS i b = _;unfold kS;rw [if_pos (by omega)];omega
        clear HA HB hneq hlast
        generalize infixB i=X at *
        go_wp2_with fail
        go_ret
        exact ⟨by rw [show kS i b=60+((i:Int)+1) from HK2];rfl,(Below.refl _ w).alloc (Nat.le_refl _) _⟩
theorem impl_sign (S : ByteArray) (s1 s2 : Bool) (h1 : (S.toList == [59]) = s1) (h2 : (S.toList == [10]) = s2) (a b : Nat) (ha : Fm infixB 18 S a) (hb : Fm marksB 11 S b) (w : World) (hg : Gd w) :
    Calls Tryz.prog 190 #[.string S] w fun e w'=>e = .returned (.int .i64 (kI s1 s2 a b))∧w'=w:=by
  have HA:Hid (Fm infixB 18 S a):=ha
  have HB:Hid (Fm marksB 11 S b):=hb
  have HR1:Hid (w.rangeAt 4 0 marksA.toList):=hg.marks
  have HR2:Hid (w.rangeAt 5 0 infixA.toList):=hg.infx
  clear ha hb hg
  cases s1 with
  | true =>
    show Calls Tryz.prog 190 #[.string S] w fun e w'=>e = .returned (.int .i64 5)∧w'=w
    clear HA HB HR1 HR2 h2
    go_enter Tryz.func190,Tryz.ntmps190
    go_wp2_with fail
    go_ret
    exact ⟨rfl,rfl⟩
  | false =>
    cases s2 with
    | true =>
      show Calls Tryz.prog 190 #[.string S] w fun e w'=>e = .returned (.int .i64 7)∧w'=w
      clear HA HB HR1 HR2
      go_enter Tryz.func190,Tryz.ntmps190
      go_wp2_with fail
      go_ret
      exact ⟨rfl,rfl⟩
    | false =>
      have HK:Hid (kI false false a b=if b < 11 then 40+(b:Int) else if a < 18 then 61+(a:Int) else 0):=rfl
      go_enter Tryz.func190,Tryz.ntmps190
      go_wp2_with (refine wpList_load_mid rfl 211 (.global 4) rfl 4 0 rfl marksA.toList _ HR1 Tryz.underlying211 rfl (by kernel_rfl) ?_)
      clear HR1 h1 h2
      obtain ⟨h11,hneqb,hlastb⟩:=(show Fm marksB 11 S b from HB)
      have HNB:Hid (∀ j,j < b→((marksB j).toList == S.toList)=false):=hneqb
      have HLB:Hid (b=11∨((marksB b).toList == S.toList)=true):=hlastb
      clear HB hneqb hlastb
      go_loop [13] (fun v=>∃ j:Nat,v = .int .i64 j∧j≤b) (fun v=>11 - (intOf v).toNat)
      case atStart=>exact ⟨0,rfl,Nat.zero_le _⟩
      case round =>
        obtain ⟨j,rfl,hjb⟩:=hrel
        by_cases hj:j < b
        · have hc:=(show ∀ j,j < b→((marksB j).toList == S.toList)=false from HNB) j hj
          have hgi:=tab_index 211 11 marksA Tryz.underlying211 j (by omega) _ (marks_get j (by omega))
          have hj11:(j:Int) < 11:=by omega
          clear HNB HLB HK HA HR2
          generalize marksB j=X at *
          go_wp2_with fail
          refine ⟨⟨j+1,by go_num,by omega⟩,?_⟩
          simp [intOf];omega
        · obtain rfl:j=b:=by omega
          by_cases hb11:j=11
          · have hn2:¬ (j:Int) < 11:=by omega
            have HK2:Hid (kI false false a j=if a < 18 then 61+(a:Int) else 0):=by show kI false false a j = _;rw [show kI false false a j=if j < 11 then 40+(j:Int) else if a < 18 then 61+(a:Int) else 0 from HK,if_neg (by omega)]
            clear HNB HLB HK hb11
            go_wp2_with (refine wpList_load_mid rfl 212 (.global 5) rfl 5 0 rfl infixA.toList _ HR2 Tryz.underlying212 rfl (by kernel_rfl) ?_)
            clear HR2
            obtain ⟨h18,hneq,hlast⟩:=(show Fm infixB 18 S a from HA)
            have HNA:Hid (∀ j,j < a→((infixB j).toList == S.toList)=false):=hneq
            have HLA:Hid (a=18∨((infixB a).toList == S.toList)=true):=hlast
            clear HA hneq hlast
            go_loop [24] (fun v=>∃ i:Nat,v = .int .i64 i∧i≤a) (fun v=>18 - (intOf v).toNat)
            case atStart=>exact ⟨0,rfl,Nat.zero_le _⟩
            case round =>
              obtain ⟨i,rfl,hia⟩:=hrel
              by_cases hi:i < a
              · have hc:=(show ∀ j,j < a→((infixB j).toList == S.toList)=false from HNA) i hi
                have hgi:=tab_index 212 18 infixA Tryz.underlying212 i (by omega) _ (infix_get i (by omega))
                have hi18:(i:Int) < 18:=by omega
                clear HNA HLA HK2
                generalize infixB i=X at *
                go_wp2_with fail
                refine ⟨⟨i+1,by go_num,by omega⟩,?_⟩
                simp [intOf];omega
              · obtain rfl:i=a:=by omega
                by_cases hi18e:i=18
                · have hn3:¬ (i:Int) < 18:=by omega
                  have HK3:Hid (kI false false i j=0):=by show kI false false i j=0;rw [show kI false false i j=if i < 18 then 61+(i:Int) else 0 from HK2,if_neg (by omega)]
                  clear HNA HLA HK2 hi18e
                  go_wp2_with fail
                  go_ret
                  exact ⟨by rw [show kI false false i j=0 from HK3];rfl,rfl⟩
                · have hc:=(show i=18∨((infixB i).toList == S.toList)=true from HLA).resolve_left hi18e
                  have hgi:=tab_index 212 18 infixA Tryz.underlying212 i (by omega) _ (infix_get i (by omega))
                  have hi18:(i:Int) < 18:=by omega
                  have HK3:Hid (kI false false i j=61+(i:Int)):=by show kI false false i j = _;rw [show kI false false i j=if i < 18 then 61+(i:Int) else 0 from HK2,if_pos (by omega)]
                  clear HNA HLA HK2
                  generalize infixB i=X at *
                  go_wp2_with fail
                  go_ret
                  exact ⟨by rw [show kI false false i j=61+(i:Int) from HK3];rfl,rfl⟩
          · have hc:=(show j=11∨((marksB j).toList == S.toList)=true from HLB).resolve_left hb11
            have hgi:=tab_index 211 11 marksA Tryz.underlying211 j (by omega) _ (marks_get j (by omega))
            have hj11:(j:Int) < 11:=by omega
            have HK2:Hid (kI false false a j=40+(j:Int)):=by show kI false false a j = _;rw [show kI false false a j=if j < 11 then 40+(j:Int) else if a < 18 then 61+(a:Int) else 0 from HK,if_pos (by omega)]
            clear HNB HLB HK HA HR2
            generalize marksB j=X at *
            go_wp2_with fail
            go_ret
            exact ⟨by rw [show kI false false a j=40+(j:Int) from HK2];rfl,rfl⟩
theorem fm_find {f:Nat→ByteArray} {ws:List (List UInt8)} (hf:∀ i,(f i).data.toList=ws.getD i []) {S:ByteArray} {m:Nat} (h:Fm f ws.length S m):wfind ws S.data.toList=if m < ws.length then some m else none:=by
  obtain ⟨h1,h2,h3⟩:=h
  have hne:∀ j,j < m→ws.getD j [] ≠ S.data.toList:=fun j hj g=>by
    have:=h2 j hj
    rw [cmp_list,hf,g] at this
    simp at this
  by_cases hm:m < ws.length
  · rw [if_pos hm]
    have:=h3.resolve_left (by omega)
    rw [cmp_list,hf] at this
    exact wfind_some hm (eq_of_beq this) hne
  · rw [if_neg hm]
    exact wfind_none (fun j hj=>hne j (by omega))
def sv (X:List UInt8):Int:=if X = [59] then 5 else if X = [10] then 7 else match wfind marksL X with
  | some b=>40+b
  | none=>match wfind infixL X with
    | some a=>61+a
    | none=>0
def ssv (X:List UInt8):Int:=match wfind infixL X with
  | some a=>61+a
  | none=>match wfind marksL X with
    | some b=>40+b
    | none=>5
theorem sign_run (S:ByteArray) (w:World) (hg:Gd w):Calls Tryz.prog 190 #[.string S] w fun e w'=>e = .returned (.int .i64 (sv S.data.toList))∧w'=w:=by
  obtain ⟨a,ha⟩:=fm_any infixB 18 S
  obtain ⟨b,hb⟩:=fm_any marksB 11 S
  have ea:=fm_find (ws:=infixL) infix_list (S:=S) (m:=a) (by rw [infix_len];exact ha)
  have eb:=fm_find (ws:=marksL) marks_list (S:=S) (m:=b) (by rw [marks_len];exact hb)
  rw [infix_len] at ea
  rw [marks_len] at eb
  have e:sv S.data.toList=kI (S.toList == [59]) (S.toList == [10]) a b:=by
    unfold sv kI
    rw [Lib.toList_data,ea,eb]
    by_cases h1:S.data.toList = [59]
    · simp [h1]
    · by_cases h2:S.data.toList = [10]
      · simp [h2]
      · have n1:(S.data.toList == [59])=false:=by simpa using h1
        have n2:(S.data.toList == [10])=false:=by simpa using h2
        rw [if_neg h1,if_neg h2,n1,n2]
        by_cases hb2:b < 11
        · simp [hb2]
        · by_cases ha2:a < 18
          · simp [hb2,ha2]
          · simp [hb2,ha2]
  rw [e]
  exact impl_sign S _ _ rfl rfl a b ha hb w hg
theorem spec_sign_run (S:ByteArray) (w:World):Calls Tryz.prog 147 #[.string S] w fun e w'=>e = .returned (.int .i64 (ssv S.data.toList))∧Below w.heap.size w w':=by
  obtain ⟨a,ha⟩:=fm_any infixB 18 S
  obtain ⟨b,hb⟩:=fm_any marksB 11 S
  have ea:=fm_find (ws:=infixL) infix_list (S:=S) (m:=a) (by rw [infix_len];exact ha)
  have eb:=fm_find (ws:=marksL) marks_list (S:=S) (m:=b) (by rw [marks_len];exact hb)
  rw [infix_len] at ea
  rw [marks_len] at eb
  have e:ssv S.data.toList=kS a b:=by
    unfold ssv kS
    rw [ea,eb]
    by_cases ha2:a < 18
    · simp [ha2]
    · by_cases hb2:b < 11
      · simp [hb2,ha2]
      · simp [hb2,ha2]
  rw [e]
  exact spec_sign S a b ha hb w
def sgr (R:List UInt8):Nat→Int × Nat
  | 0=>(0,0)
  | s+1=>if sv (R.take (s+1))=0 then sgr R s else (sv (R.take (s+1)),s+1)
def sgAt (R:List UInt8):Int × Nat:=sgr R (min 3 R.length)
theorem impl_signs {B : Nat} {T : ByteArray} (L : List UInt8) (hT : T.data.toList = L) {k : Nat} {l : Int} {st : Bool} (hlen : T.size ≤ 65536) (hk : k ≤ L.length) (hB : 10 ≤ B) (w : World) (hg : Gd w) (h : Sb B T k l st w) :
    Calls Tryz.prog 182 #[.pointer (some ⟨B,0,none⟩)] w fun e w'=>e = .returned (tokV (sgAt (L.drop k)).1 0 0 0 0 ⟨#[]⟩)∧Mv B T ((k+(sgAt (L.drop k)).2:Nat):Int) l st w w':=by
  have hs:T.size=L.length:=by rw [← hT];simp
  obtain ⟨M,hM,hLM⟩:∃ M:Int,M≤65536∧(L.length:Int)≤M:=⟨L.length,by omega,Int.le_refl _⟩
  have hBlt:B < w.heap.size:=h.lt
  have hnB:w.heap.size ≠ B:=by omega
  have hz:=Mz.start h
  have hgz:Gd (w.alloc (.cells #[.int .i64 0,.int .i64 0,.int .i64 0,.int .i64 0,.int .i64 0,.string ⟨#[]⟩] 179)):=hg.kb hB hz.1.1
  have c0:=hz.1.2.c0
  have c1:=hz.1.2.c1
  obtain ⟨W,hWe,HS⟩:∃ W,W=(w.alloc (.cells #[.int .i64 0,.int .i64 0,.int .i64 0,.int .i64 0,.int .i64 0,.string ⟨#[]⟩] 179))∧Hid (Mz B w.heap.size T k l st w W∧Gd W):=⟨_,rfl,(⟨hz,hgz⟩:_∧_)⟩
  rw [← hWe] at c0 c1
  have hkM:(k:Int)≤M:=by omega
  have hmin:(3:Int)≤(T.size:Int) - (k:Int)∨(T.size:Int) - (k:Int) < 3:=by omega
  have HT:Hid (T.data.toList=L):=hT
  clear hT hlen hg h hz hgz
  go_enter Tryz.func182,Tryz.ntmps182
  go_wp2_with fail
  rw [← hWe]
  clear hWe
  have hle:(k:Int)≤(T.size:Int):=by omega
  go_quiet (fail)
  clear c0 c1 hle hmin
  obtain ⟨W2,hWe2,HS2⟩:∃ W2,W2=W.drewN nq∧Hid (Mz B w.heap.size T k l st w W2∧Gd W2):=⟨_,rfl,(⟨HS.1.drewN nq,⟨HS.2.words,HS.2.marks,HS.2.infx,HS.2.err7,HS.2.err6,HS.2.size⟩⟩:_∧_)⟩
  rw [← hWe2]
  clear hWe2 HS
  go_wp2_with fail
  go_loopw [3] (fun v wr=>∃ s:Nat,v = .int .i64 (s:Int)∧s≤3∧k+s≤L.length∧Hid (Mz B w.heap.size T k l st w wr∧Gd wr∧sgAt (L.drop k)=sgr (L.drop k) s)) (fun v _=>(intOf v).toNat)
  case atStart =>
    refine ⟨min 3 (L.length - k),?_,by omega,by omega,(⟨HS2.1,HS2.2,by unfold sgAt;rw [List.length_drop]⟩:_∧_∧_)⟩
    congr 1
    omega
  case round =>
    clear HS2
    obtain ⟨s,rfl,hs3,hsl,HR⟩:=hrel
    obtain ⟨hK,hG,hE⟩:=(show Mz B w.heap.size T k l st w wr∧Gd wr∧sgAt (L.drop k)=sgr (L.drop k) s from HR)
    clear HR
    have b0:=hK.1.2.c0
    have b1:=hK.1.2.c1
    by_cases h0 : 0 < s
    · obtain ⟨s',rfl⟩:∃ s',s=s'+1:=⟨s - 1,by omega⟩
      have hsl:∀ W:World,(Instr.slice 9 (.string T) (some (.int .i64 (k:Int))) (some (.int .i64 ((k:Int)+((s':Int)+1)))) none).run Tryz.prog W = .ok (.string (T.extract k (k+(s'+1)))) W:=by
        intro W
        rw [run_slice_string (P:=Tryz.prog) W 9 T .i64 .i64 (k:Int) ((k:Int)+((s':Int)+1)) Tryz.underlying9 (by omega) (by omega) (by omega)]
        have e2:((k:Int)+((s':Int)+1)).toNat=k+(s'+1):=by omega
        rw [e2]
        simp
      have hX:(T.extract k (k+(s'+1))).data.toList=(L.drop k).take (s'+1):=by rw [ext_list,show T.data.toList=L from HT];congr 1;omega
      have hsr:=fun q=>sign_run (T.extract k (k+(s'+1))) (wr.drewN q) ⟨hG.words,hG.marks,hG.infx,hG.err7,hG.err6,hG.size⟩
      rw [hX] at hsr
      have hs3I:(s':Int)+1≤3:=by omega
      have hkM:(k:Int)≤M:=by omega
      by_cases hv:sv ((L.drop k).take (s'+1))=0
      · have HN : Hid (∀ q, Mz B w.heap.size T k l st w (wr.drewN q) ∧ Gd (wr.drewN q) ∧ sgAt (L.drop k) = sgr (L.drop k) s') :=
          (fun q=>⟨hK.drewN q,⟨hG.words,hG.marks,hG.infx,hG.err7,hG.err6,hG.size⟩,by rw [hE,sgr,if_pos hv]⟩:∀ q,Mz B w.heap.size T k l st w (wr.drewN q)∧Gd (wr.drewN q)∧sgAt (L.drop k)=sgr (L.drop k) s')
        rw [hv] at hsr
        clear hK hG hE hX HT hv
        generalize T.extract k (k+(s'+1))=S at *
        go_wp2_with fail
        go_quiet ((go_at_call 190;exact Calls.quiet_of_same (hsr _)))
        go_wp2_with fail
        have hN:=(show ∀ q,_ from HN) nq
        refine ⟨⟨s',by go_num,by omega,by omega,hN⟩,?_⟩
        simp [intOf]
      · have HE:Hid (sgAt (L.drop k)=(sv ((L.drop k).take (s'+1)),s'+1)):=by show sgAt (L.drop k) = _;rw [hE,sgr,if_neg hv]
        have HKA:Hid (∀ q,Mz B w.heap.size T k l st w (wr.drewN q)):=(fun q=>hK.drewN q:∀ q,Mz B w.heap.size T k l st w (wr.drewN q))
        have hvb:(sv ((L.drop k).take (s'+1)) != 0)=true:=by simpa using hv
        clear hK hG hE hX HT hv
        generalize T.extract k (k+(s'+1))=S at *
        generalize sv ((L.drop k).take (s'+1))=v at *
        go_wp2_with fail
        go_quiet ((go_at_call 190;exact Calls.quiet_of_same (hsr _)))
        obtain ⟨W3,hWe3,hK3⟩:∃ W3,W3=wr.drewN nq∧Mz B w.heap.size T k l st w W3:=⟨_,rfl,(show ∀ q,_ from HKA) nq⟩
        rw [← hWe3]
        clear b0 b1 hsr HKA hWe3
        have b1:=hK3.1.2.c1
        have f1:=hK3.1.2.fz 1
        have h4:=hK3.set1 hnB ((k:Int)+((s':Int)+1))
        have HM4:Hid (Mv B T ((k+(s'+1):Nat):Int) l st w (W3.setCell ⟨B,1,none⟩ (.int .i64 ((k:Int)+((s':Int)+1))))):=h4.1
        have z3:=h4.2
        have g0:=z3.c0
        have g1:=z3.c1
        have g2:=z3.c2
        have g3:=z3.c3
        have g4:=z3.c4
        have g5:=z3.c5
        have y0:=z3.f0
        have y1:=z3.f1
        have y2:=z3.f2
        have y3:=z3.f3
        have y4:=z3.f4
        have y5:=z3.f5
        have e0:=st6_c0 z3
        have e1:=st6_c1 z3
        have e2:=st6_c2 z3
        have e3:=st6_c3 z3
        have e4:=st6_c4 z3
        have e5:=st6_c5 z3
        clear hK3 h4 z3
        go_wp2_with fail
        refine bodyPost_ret (by simp [results,Tryz.results182,go_sem,e0,e1,e2,e3,e4,e5];rfl) rfl ?_
        have hEE:=(show sgAt (L.drop k)=(v,s'+1) from HE)
        rw [hEE]
        refine ⟨rfl,?_⟩
        exact st6_mv HM4 (Nat.le_refl _) hnB _ _ _ _ _ _
    · obtain rfl:s=0:=by omega
      have HE:Hid (sgAt (L.drop k)=(0,0)):=by show sgAt (L.drop k) = _;rw [hE];rfl
      have HM4:Hid (Mv B T (k:Int) l st w wr):=hK.1
      have z3:=hK.2
      have g0:=z3.c0
      have g1:=z3.c1
      have g2:=z3.c2
      have g3:=z3.c3
      have g4:=z3.c4
      have g5:=z3.c5
      have y0:=z3.f0
      have y1:=z3.f1
      have y2:=z3.f2
      have y3:=z3.f3
      have y4:=z3.f4
      have y5:=z3.f5
      have e0:=st6_c0 z3
      have e1:=st6_c1 z3
      have e2:=st6_c2 z3
      have e3:=st6_c3 z3
      have e4:=st6_c4 z3
      have e5:=st6_c5 z3
      clear hK hG hE z3 HT
      go_wp2_with fail
      refine bodyPost_ret (by simp [results,Tryz.results182,go_sem,e0,e1,e2,e3,e4,e5];rfl) rfl ?_
      have hEE:=(show sgAt (L.drop k)=(0,0) from HE)
      rw [hEE]
      refine ⟨rfl,?_⟩
      exact st6_mv HM4 (Nat.le_refl _) hnB _ _ _ _ _ _
theorem sgn_same:∀ j:Fin 30,sv (sgnL.getD j.val [])=ssv (sgnL.getD j.val [])∧ssv (sgnL.getD j.val []) ≠ 0∧0 < (sgnL.getD j.val []).length∧(sgnL.getD j.val []).length≤3:=by decide +kernel
theorem sgn_order:∀ m j:Fin 30,m.val < j.val→¬ ((sgnL.getD m.val []).length < (sgnL.getD j.val []).length∧(sgnL.getD j.val []).take (sgnL.getD m.val []).length=sgnL.getD m.val []):=by decide +kernel
theorem marks_in:∀ b:Fin 11,∃ j:Fin 30,marksL.getD b.val []=sgnL.getD j.val []:=by decide +kernel
theorem infix_in:∀ b:Fin 18,∃ j:Fin 30,infixL.getD b.val []=sgnL.getD j.val []:=by decide +kernel
theorem find_some {ws:List (List UInt8)} {X:List UInt8} {i:Nat} (h:wfind ws X=some i):i < ws.length∧ws.getD i []=X:=by
  unfold wfind at h
  rw [List.findIdx?_eq_some_iff_getElem] at h
  obtain ⟨h1,h2,_⟩:=h
  refine ⟨h1,?_⟩
  rw [getD_of _ _ _ h1]
  exact eq_of_beq h2
theorem sv_in (X:List UInt8) (h:sv X ≠ 0):X = [10]∨∃ j,j < 30∧X=sgnL.getD j []:=by
  unfold sv at h
  by_cases h1:X = [59]
  · right;exact ⟨22,by omega,by rw [h1];decide⟩
  · rw [if_neg h1] at h
    by_cases h2:X = [10]
    · left;exact h2
    · rw [if_neg h2] at h
      right
      cases hm:wfind marksL X with
      | some b =>
        obtain ⟨l1,e1⟩:=find_some hm
        obtain ⟨j,hj⟩:=marks_in ⟨b,by rw [marks_len] at l1;exact l1⟩
        exact ⟨j.val,j.isLt,by rw [← hj,← e1]⟩
      | none =>
        cases hi:wfind infixL X with
        | some b =>
          obtain ⟨l1,e1⟩:=find_some hi
          obtain ⟨j,hj⟩:=infix_in ⟨b,by rw [infix_len] at l1;exact l1⟩
          exact ⟨j.val,j.isLt,by rw [← hj,← e1]⟩
        | none=>rw [hm,hi] at h;exact absurd rfl h
theorem sgr_none (R:List UInt8):∀ s,(∀ t,0 < t→t≤s→sv (R.take t)=0)→sgr R s=(0,0)
  | 0,_=>rfl
  | s+1,h=>by rw [sgr,if_pos (h (s+1) (by omega) (by omega))];exact sgr_none R s (fun t h1 h2=>h t h1 (by omega))
theorem sgr_some (R:List UInt8) (s0:Nat) (h0 : 0 < s0) (hv:sv (R.take s0) ≠ 0):∀ s,s0≤s→(∀ t,s0 < t→t≤s→sv (R.take t)=0)→sgr R s=(sv (R.take s0),s0)
  | 0,h1,_=>by omega
  | s+1,h1,h=>by
    by_cases e:s0=s+1
    · subst e;rw [sgr,if_neg hv]
    · rw [sgr,if_pos (h (s+1) (by omega) (by omega))]
      exact sgr_some R s0 h0 hv s (by omega) (fun t h2 h3=>h t h2 (by omega))
def Sm (R:List UInt8) (m:Nat):Prop:=m≤30∧(∀ j,j < m→(R.take (sgnL.getD j []).length == sgnL.getD j [])=false)∧(m=30∨(R.take (sgnL.getD m []).length == sgnL.getD m [])=true)
theorem sm_any (R:List UInt8):∃ m,Sm R m:=by
  have key:∀ n,n≤30→(∃ m,m < n∧(∀ j,j < m→(R.take (sgnL.getD j []).length == sgnL.getD j [])=false)∧(R.take (sgnL.getD m []).length == sgnL.getD m [])=true)∨(∀ j,j < n→(R.take (sgnL.getD j []).length == sgnL.getD j [])=false):=by
    intro n
    induction n with
    | zero=>intro _;right;intro j hj;omega
    | succ n ih =>
      intro hn
      rcases ih (by omega) with ⟨m,h1,h2,h3⟩ | h
      · left;exact ⟨m,by omega,h2,h3⟩
      · cases hc:(R.take (sgnL.getD n []).length == sgnL.getD n []) with
        | true=>left;exact ⟨n,by omega,h,hc⟩
        | false =>
          right
          intro j hj
          by_cases e:j=n
          · subst e;exact hc
          · exact h j (by omega)
  rcases key 30 (Nat.le_refl _) with ⟨m,h1,h2,h3⟩ | h
  · exact ⟨m,by omega,h2,.inr h3⟩
  · exact ⟨30,Nat.le_refl _,h,.inl rfl⟩
theorem sign_eq {R:List UInt8} {m:Nat} (hm:Sm R m) (hnl:R.head? ≠ some 10):sgAt R=if m < 30 then (ssv (sgnL.getD m []),(sgnL.getD m []).length) else (0,0):=by
  obtain ⟨h1,h2,h3⟩:=hm
  have hno:∀ t,0 < t→t≤R.length→sv (R.take t) ≠ 0→∃ j,j < 30∧R.take t=sgnL.getD j []∧m≤j∧(sgnL.getD j []).length=t:=by
    intro t ht ht2 hv
    rcases sv_in _ hv with g | ⟨j,hj,g⟩
    · exfalso
      apply hnl
      cases R with
      | nil=>simp at g
      | cons c r =>
        cases t with
        | zero=>omega
        | succ t=>simp at g;simp [g.1]
    · refine ⟨j,hj,g,?_,?_⟩
      · rcases Nat.lt_or_ge j m with h | h
        · exfalso
          have hlen:(sgnL.getD j []).length=t:=by rw [← g,List.length_take];omega
          have:=h2 j h
          rw [hlen,g] at this
          simp at this
        · exact h
      · rw [← g,List.length_take];omega
  by_cases hm30:m < 30
  · rw [if_pos hm30]
    obtain ⟨s1,s2,s3,s4⟩:=sgn_same ⟨m,hm30⟩
    replace s1:sv (sgnL.getD m [])=ssv (sgnL.getD m []):=s1
    replace s2:ssv (sgnL.getD m []) ≠ 0:=s2
    replace s3 : 0 < (sgnL.getD m []).length:=s3
    replace s4:(sgnL.getD m []).length≤3:=s4
    have hpre:=eq_of_beq (h3.resolve_left (by omega))
    have hlenR:(sgnL.getD m []).length≤R.length:=by
      have:=congrArg List.length hpre
      rw [List.length_take] at this
      omega
    have e:=sgr_some R (sgnL.getD m []).length s3 (by rw [hpre,s1];exact s2) (min 3 R.length) (by omega) (by
      intro t ht1 ht2
      apply Classical.byContradiction
      intro hv
      obtain ⟨j,hj,g,hmj,hl⟩:=hno t (by omega) (by omega) hv
      have hne:m < j:=by
        rcases Nat.lt_or_ge m j with h | h
        · exact h
        · have:j=m:=by omega
          subst this
          omega
      refine sgn_order ⟨m,hm30⟩ ⟨j,hj⟩ hne ⟨by show (sgnL.getD m []).length < (sgnL.getD j []).length;omega,?_⟩
      show (sgnL.getD j []).take (sgnL.getD m []).length=sgnL.getD m []
      rw [← g,List.take_take,Nat.min_eq_left (by omega)]
      exact hpre)
    unfold sgAt
    rw [e,hpre,s1]
  · rw [if_neg hm30]
    unfold sgAt
    apply sgr_none
    intro t ht1 ht2
    apply Classical.byContradiction
    intro hv
    obtain ⟨j,hj,_,hmj,_⟩:=hno t ht1 (by omega) hv
    omega
theorem sign_nl {R:List UInt8} (hnl:R.head? = some 10):sgAt R=(7,1):=by
  obtain ⟨c,r,rfl⟩:∃ c r,R=c :: r:=by cases R with
    | nil=>simp at hnl
    | cons c r=>exact ⟨c,r,rfl⟩
  have hc:c=10:=by simpa using hnl
  subst hc
  have h1:sv (((10:UInt8) :: r).take 1)=7:=by simp [sv]
  have e:=sgr_some (10 :: r) 1 (by omega) (by rw [h1];decide) (min 3 ((10:UInt8) :: r).length) (by simp;omega) (by
    intro t ht1 ht2
    apply Classical.byContradiction
    intro hv
    rcases sv_in _ hv with g | ⟨j,hj,g⟩
    · have:=congrArg List.length g
      rw [List.length_take] at this
      simp at this ht2
      omega
    · have hh:=congrArg List.head? g
      have hfirst:∀ j:Fin 30,(sgnL.getD j.val []).head? ≠ some 10:=by decide +kernel
      apply hfirst ⟨j,hj⟩
      rw [show (sgnL.getD (⟨j,hj⟩:Fin 30).val [])=sgnL.getD j [] from rfl,← hh]
      cases t with
      | zero=>omega
      | succ t=>simp)
  unfold sgAt
  rw [e,h1]
end Go.Proofs.YtomcmnompajnlaaGreatDoor
namespace Go.Proofs.YtomcmnompajnlaaGreatDoor.Rd
open Go.ChangeShapes Go.WideShapes Go.ChangeAt Go.RowKit Go.Proofs.YtomcmnompajnlaaGreatDoor
set_option linter.unusedVariables false
def dv (c:UInt8):Nat:=if 48≤c.toNat∧c.toNat≤57 then c.toNat - 48 else if 97≤c.toNat∧c.toNat≤122 then c.toNat - 87 else 99
def dw (c:UInt8):Nat:=if 48≤c.toNat∧c.toNat≤57 then c.toNat - 48 else if 97≤c.toNat∧c.toNat≤122 then c.toNat - 87 else 36
theorem impl_dig (c:UInt8) (w:World):Calls Tryz.prog 193 #[.int .u8 (c.toNat:Int)] w fun e w'=>e = .returned (.int .i64 (dw c:Int))∧w'=w:=by
  have hc:=c.toNat_lt
  by_cases h1 : 48≤c.toNat∧c.toNat≤57
  · have e:(dw c:Int)=(c.toNat:Int) - 48:=by unfold dw;rw [if_pos h1];omega
    rw [e]
    obtain ⟨h1,h2⟩:=h1
    have i1:(48:Int)≤(c.toNat:Int):=by omega
    have i2:(c.toNat:Int)≤57:=by omega
    clear e h1 h2
    generalize (c.toNat:Int)=n at *
    go_enter Tryz.func193,Tryz.ntmps193
    go_wp2
    go_ret
    exact ⟨rfl,rfl⟩
  · by_cases h2 : 97≤c.toNat∧c.toNat≤122
    · have e:(dw c:Int)=(c.toNat:Int) - 97+10:=by unfold dw;rw [if_neg h1,if_pos h2];omega
      rw [e]
      have i0:¬ (c.toNat:Int)≤57:=by omega
      have i1:(97:Int)≤(c.toNat:Int):=by omega
      have i2:(c.toNat:Int)≤122:=by omega
      have i3:(48:Int)≤(c.toNat:Int):=by omega
      clear e h1 h2
      generalize (c.toNat:Int)=n at *
      go_enter Tryz.func193,Tryz.ntmps193
      go_wp2
      go_ret
      exact ⟨rfl,rfl⟩
    · have e:(dw c:Int)=36:=by unfold dw;rw [if_neg h1,if_neg h2];rfl
      rw [e]
      have i0:(c.toNat:Int) < 48∨57 < (c.toNat:Int)∧(c.toNat:Int) < 97∨122 < (c.toNat:Int):=by omega
      clear e h1 h2
      generalize (c.toNat:Int)=n at *
      rcases i0 with i | ⟨i,j⟩ | i
      all_goals
        go_enter Tryz.func193,Tryz.ntmps193
        go_wp2
        go_ret
        exact ⟨rfl,rfl⟩
theorem dv_dw (c:UInt8) (b:Nat) (hb:b≤36):(dv c < b)=(dw c < b):=by
  unfold dv dw
  split
  · rfl
  · split
    · rfl
    · simp;omega
def rd (b:Nat):Nat→List UInt8→Option Nat
  | acc,[]=>some acc
  | acc,c :: r=>if acc*b+dv c < 18446744073709551616 then rd b (acc*b+dv c) r else none
theorem acc_facts (b acc d:Nat) (hb : 2≤b) (hd:d < b):∃ (q p:Int),18446744073709551615 / (b:Int)=q∧(acc:Int)*(b:Int)=p∧p=((acc*b:Nat):Int)∧0≤p∧(q < acc→18446744073709551616≤acc*b+d)∧((acc:Int)≤q→p≤18446744073709551615):=by
  refine ⟨((18446744073709551615 / b:Nat):Int),((acc*b:Nat):Int),by simp,by simp,rfl,by omega,fun h=>?_,fun h=>?_⟩
  · have h1 : 18446744073709551615 / b < acc:=by omega
    have h2:=(Nat.div_lt_iff_lt_mul (by omega)).1 h1
    omega
  · have h1:acc≤18446744073709551615 / b:=by omega
    have h2:=Nat.mul_le_mul_right b h1
    have h3:=Nat.div_mul_le_self 18446744073709551615 b
    omega
def ansT (b:Nat) (neg:Bool) (R:List UInt8):Int × Int :=
  if R = [] then (2,0) else if R.all (fun c=>decide (dv c < b))=false then (2,0) else
  match rd b 0 R with
  | none=>(3,0)
  | some v=>if 9223372036854775808 < v∨(v=9223372036854775808∧neg=false) then (3,0) else (0,if neg then -(v:Int) else v)
def whole (p:Int × Int):Value:=.agg #[.int .i64 p.1,.int .i64 p.2]
theorem rd_lt (b:Nat):∀ (L:List UInt8) (acc v:Nat),acc < 18446744073709551616→rd b acc L=some v→v < 18446744073709551616
  | [],acc,v,h,e=>by simp [rd] at e;omega
  | c :: r,acc,v,h,e=>by
    unfold rd at e
    split at e
    · rename_i hlt
      exact rd_lt b r _ v hlt e
    · cases e
theorem ans_bad (b:Nat) (neg:Bool) (R:List UInt8) (c:UInt8) (hc:c ∈ R) (h:¬ dv c < b):ansT b neg R=(2,0):=by
  unfold ansT
  by_cases hn:R = []
  · rw [if_pos hn]
  · rw [if_neg hn,if_pos]
    rw [List.all_eq_false]
    exact ⟨c,hc,by simpa using h⟩
theorem ans_good (b:Nat) (neg:Bool) (R:List UInt8) (hd:∀ c ∈ R,dv c < b) (hne : 0 < R.length):ansT b neg R=match rd b 0 R with
  | none=>(3,0)
  | some v=>if 9223372036854775808 < v∨(v=9223372036854775808∧neg=false) then (3,0) else (0,if neg then -(v:Int) else v):=by
  unfold ansT
  have h1:R ≠ []:=by intro h;rw [h] at hne;simp at hne
  have h2:R.all (fun c=>decide (dv c < b))=true:=by rw [List.all_eq_true];intro c hc;simpa using hd c hc
  rw [if_neg h1,if_neg (by rw [h2];simp)]
theorem ans_none (b:Nat) (neg:Bool) (R:List UInt8) (hd:∀ c ∈ R,dv c < b) (hne : 0 < R.length) (h:rd b 0 R=none):ansT b neg R=(3,0):=by
  rw [ans_good b neg R hd hne,h]
theorem ans_some (b:Nat) (neg:Bool) (R:List UInt8) (hd:∀ c ∈ R,dv c < b) (hne : 0 < R.length) (v:Nat) (h:rd b 0 R=some v):ansT b neg R=if 9223372036854775808 < v∨(v=9223372036854775808∧neg=false) then (3,0) else (0,if neg then -(v:Int) else v):=by
  rw [ans_good b neg R hd hne,h]
def unt:Option Nat→Value
  | some v=>.tuple #[.int .u64 (v:Int),.nilIface]
  | none=>.tuple #[.int .u64 18446744073709551615,.iface 238 (.int .i64 1)]
theorem low26:∀ i:Fin 26,bits .or .u8 ((i.val+97:Nat):Int) 32=((i.val+97:Nat):Int):=by decide +kernel
theorem low_at (n:Nat) (h : 97≤n) (h2:n≤122):bits .or .u8 (n:Int) 32=(n:Int):=by
  have:=low26 ⟨n - 97,by omega⟩
  have e:n - 97+97=n:=by omega
  simp only [e] at this
  exact this
theorem empT (R:ByteArray) (h : 0 < R.size):R.toList.isEmpty=false:=by
  rw [← decide_eq_emptyBytes]
  exact decide_eq_false (fun g=>by rw [g] at h;simp at h)
theorem lt_of_cell {w:World} {b off:Nat} {v:Value} (h:w.cell? ⟨b,off,none⟩=some v):b < w.heap.size:=by
  refine Nat.lt_of_not_le fun g=>?_
  have e:w.heap[b]? = none:=Array.getElem?_eq_none_iff.2 g
  simp [World.cell?,e] at h
def Kept (w w':World):Prop:=w.keptBut w' (fun _=>False)
theorem is_base (b : Int) (z : Bool) (h : (decide (2 ≤ b) && decide (b ≤ 36)) = z) (w : World) :
    Calls Tryz.prog 165 #[.int .i64 b] w fun e w'=>e = .returned (.bool z)∧w'=w:=by
  by_cases h2 : 2≤b
  · by_cases h3:b≤36
    · have e:z=true:=by rw [← h];simp [h2,h3]
      subst e
      have h4:decide (b≤36)=true:=by simpa using h3
      clear h
      go_enter Tryz.func165,Tryz.ntmps165
      go_wp2
      go_ret
      exact ⟨rfl,rfl⟩
    · have e:z=false:=by rw [← h];simp [h3]
      subst e
      have h4:decide (b≤36)=false:=by simpa using h3
      clear h
      go_enter Tryz.func165,Tryz.ntmps165
      go_wp2
      go_ret
      exact ⟨rfl,rfl⟩
  · have e:z=false:=by rw [← h];simp [h2]
    subst e
    clear h
    go_enter Tryz.func165,Tryz.ntmps165
    go_wp2
    go_ret
    exact ⟨rfl,rfl⟩
end Go.Proofs.YtomcmnompajnlaaGreatDoor.Rd
