import Derived.Test.YtjggnnmnegcpjaaGreatDoorQSpht
import Derived.Test.YtjggnnmnegcpjaaGreatDoorQSpi
import Derived.Test.YtjggnnmnegcpjaaGreatDoorQSpl
import Derived.Test.YtjggnnmnegcpjaaGreatDoorCards
import Derived.Test.YtjggnnmnegcpjaaGreatDoorTie
import Derived.Deep.DeepHandedRow
import Derived.Lib.LaidTab
import Derived.Stop.LaidErr
import Derived.Stop.ErrReads
import Derived.OpenVars
set_option maxRecDepth 100000
set_option maxHeartbeats 8000000
namespace Go.Proofs.YtjggnnmnegcpjaaGreatDoor.Fo
open Go.ChangeShapes Go.WideShapes Go.ChangeAt Go.RowKit
set_option linter.unusedVariables false
theorem Rs.kz {W W':World} {h:Nat} {v:Value} (s:Rs W h v) (hb:Kz W W'):Rs W' h v:=by
  have l0:=lt_of_cell s.ct
  have l1:=lt_of_cell s.r0
  have b1:=hb.block (h+1) l1
  exact ⟨(hb.cell (p:=⟨h,0,none⟩) l0).trans s.ct,(World.cell?_of_block b1).trans s.r0,(World.cell?_of_block b1).trans s.r1,(World.frozen?_of_block b1).trans s.z0,(World.frozen?_of_block b1).trans s.z1⟩
theorem Rs.retz {w W : World} {v : Value} (s : Rs W w.heap.size v) (hb : Kz w W) (c f : Int) :
    ((W.setCell ⟨w.heap.size+1,0,none⟩ (.int .i64 c)).setCell ⟨w.heap.size+1,1,none⟩ (.int .i64 f)).cell? ⟨w.heap.size+1,0,none⟩=some (.int .i64 c)∧((W.setCell ⟨w.heap.size+1,0,none⟩ (.int .i64 c)).setCell ⟨w.heap.size+1,1,none⟩ (.int .i64 f)).cell? ⟨w.heap.size+1,1,none⟩=some (.int .i64 f)∧Kz w ((W.setCell ⟨w.heap.size+1,0,none⟩ (.int .i64 c)).setCell ⟨w.heap.size+1,1,none⟩ (.int .i64 f)):=by
  refine ⟨?_,?_,(hb.setNew _ (by show w.heap.size≤w.heap.size+1;omega) _).setNew _ (by show w.heap.size≤w.heap.size+1;omega) _⟩
  · rw [set_ne _ _ _ _ _ (by omega)];exact set_eq _ _ _ _ _ s.r0
  · exact set_eq _ _ _ _ _ (by rw [set_ne _ _ _ _ _ (by omega)];exact s.r1)
theorem kz_of {w w':World} (h:w'.os=w.os∧w'.output=w.output∧w.heap.size≤w'.heap.size∧∀ k,k < w.heap.size→w'.heap[k]? = w.heap[k]?):Kz w w':=⟨h.1,h.2.1,h.2.2.1,h.2.2.2⟩
theorem mis_kn {F:Nat→Gv} {n:Nat} (h:∀ j,j < n→ndk nmp flp F j):Kn F n:=fun i hi=>(h i hi).2.2.2.2.1
theorem im_sheet {v : Value} {n : Nat} {F : Nat → Gv} (w : World) (hg : Gd w) (hf : RowF w v n F) (hn : n ≤ 1048576) (hp : ∀ i, i < n → (F i).p ≤ 1048576) (hq : ∀ i, i < n → (F i).q ≤ 1048576) (hm : ∀ i, i < n → -9223372036854775808 ≤ (F i).a.m ∧ (F i).a.m ≤ 9223372036854775807) :
    Calls Tryz.prog 14 #[.agg #[v]] w fun e w'=>∃ c f,e = .returned (.agg #[.int .i64 c,.int .i64 f])∧Fl nmp flp F n c f∧Kz w w':=by
  have HE:Hid (∀ W,Kz w W→Calls Tryz.prog 45 #[v] W fun e w'=>e = .returned (.bool (dc (0 < n∧n≤3000∧(F (n - 1)).a.k=1)))∧Kz W w'):=(fun W hz=>im_ends W (hf.kz hz) hn:∀ W,_)
  have HM:Hid (∀ W,Kz w W→Calls Tryz.prog 46 #[v] W fun e w'=>∃ r:Int,e = .returned (.int .i64 r)∧Mis F n r∧Kz W w'):=(fun W hz=>im_misshapen W (hz.gd hg) (hf.kz hz) hn hp hq hm:∀ W,_)
  have HD:Hid (∀ W,Kz w W→0 < n→n≤3000→Kn F n→Calls Tryz.prog 47 #[v] W fun e w'=>(∃ r:Int,e = .returned (.int .i64 r)∧Dis F n r)∧w'.os=W.os∧w'.output=W.output∧W.heap.size≤w'.heap.size∧∀ k,k < W.heap.size→w'.heap[k]? = W.heap[k]?):=(fun W hz h0 h1 hK=>im_disorder W (hf.kz hz) h0 h1 hK hq:∀ W,_)
  have HT:Hid (∀ W,Kz w W→n≤3000→Kn F n→Calls Tryz.prog 48 #[v] W fun e w'=>(∃ r:Int,e = .returned (.int .i64 r)∧Tdp (dpr F n n) n r)∧w'.os=W.os∧w'.output=W.output∧W.heap.size≤w'.heap.size∧∀ k,k < W.heap.size→w'.heap[k]? = W.heap[k]?):=(fun W hz h1 hK=>im_deep W (hf.kz hz) h1 hK hq:∀ W,_)
  obtain ⟨pf,cf,rfl,_⟩:=hf
  obtain ⟨W2,hW2⟩:∃ W2,W2=(w.alloc (.cells #[.slice pf n cf] 31)).alloc (.cells #[.int .i64 0,.int .i64 0] 27):=⟨_,rfl⟩
  have hs2:Rs W2 w.heap.size (.slice pf n cf):=by rw [hW2];exact Rs.new _ _ _ _
  have hb2:Kz w W2:=by rw [hW2];exact .of_below (bel2 _ _ _)
  have HS2:Hid (Rs W2 w.heap.size (.slice pf n cf)∧Kz w W2):=(⟨hs2,hb2⟩:_∧_)
  clear hg hn hp hq hm hs2 hb2
  go_enter Tryz.func14,Tryz.ntmps14
  go_wp2_with fail
  rw [← hW2]
  clear hW2
  refine ((show ∀ W,Kz w W→Calls Tryz.prog 45 #[.slice pf n cf] W _ from HE) W2 HS2.2).mono ?_
  rintro e w3 ⟨rfl,k3⟩
  have HS3:Hid (Rs w3 w.heap.size (.slice pf n cf)∧Kz w w3):=(⟨HS2.1.kz k3,HS2.2.trans k3⟩:_∧_)
  clear HS2 k3 HE
  by_cases g : 0 < n∧n≤3000∧(F (n - 1)).a.k=1
  case neg =>
    rw [dc_f g]
    have hFl:Fl nmp flp F n 1 0:=.none0 (by omega)
    have hrs:=(show Rs w3 w.heap.size (.slice pf n cf)∧Kz w w3 from HS3)
    have HX:Hid (Fl nmp flp F n 1 0∧Kz w ((w3.setCell ⟨w.heap.size+1,0,none⟩ (.int .i64 1)).setCell ⟨w.heap.size+1,1,none⟩ (.int .i64 0))):=(⟨hFl,(hrs.1.retz hrs.2 1 0).2.2⟩:_∧_)
    have e0:=(hrs.1.retz hrs.2 1 0).1
    have e1:=(hrs.1.retz hrs.2 1 0).2.1
    have c1:=hrs.1.r0
    have c2:=hrs.1.r1
    have c3:=hrs.1.z0
    have c4:=hrs.1.z1
    clear hrs hFl
    go_wp2_with fail
    refine bodyPost_ret (by simp [results,Tryz.results14,go_sem,e0,e1];rfl) rfl ?_
    exact ⟨1,0,rfl,HX.1,HX.2⟩
  rw [dc_t g]
  obtain ⟨h0,h1,h2⟩:=g
  have HG:Hid (0 < n∧n≤3000∧(F (n - 1)).a.k=1):=(⟨h0,h1,h2⟩:_∧_∧_)
  clear h0 h1 h2
  have c0:=(show Rs w3 w.heap.size (.slice pf n cf)∧Kz w w3 from HS3).1.ct
  go_wp2_with fail
  refine ((show ∀ W,Kz w W→Calls Tryz.prog 46 #[.slice pf n cf] W _ from HM) w3 HS3.2).mono ?_
  rintro e w4 ⟨r,rfl,hmis,k4⟩
  have HS4:Hid (Rs w4 w.heap.size (.slice pf n cf)∧Kz w w4):=(⟨HS3.1.kz k4,HS3.2.trans k4⟩:_∧_)
  clear HS3 k4 HM c0
  cases hmis with
  | «at» i hi ha hd =>
    have hFl:Fl nmp flp F n 2 (i:Int):=.shape i HG.1 HG.2.1 HG.2.2 hi ha hd
    clear ha hd
    have hrs:=(show Rs w4 w.heap.size (.slice pf n cf)∧Kz w w4 from HS4)
    have HX:Hid (Fl nmp flp F n 2 (i:Int)∧Kz w ((w4.setCell ⟨w.heap.size+1,0,none⟩ (.int .i64 2)).setCell ⟨w.heap.size+1,1,none⟩ (.int .i64 (i:Int)))):=(⟨hFl,(hrs.1.retz hrs.2 2 (i:Int)).2.2⟩:_∧_)
    have e0:=(hrs.1.retz hrs.2 2 (i:Int)).1
    have e1:=(hrs.1.retz hrs.2 2 (i:Int)).2.1
    have c1:=hrs.1.r0
    have c2:=hrs.1.r1
    have c3:=hrs.1.z0
    have c4:=hrs.1.z1
    clear hrs hFl
    go_wp2_with fail
    refine bodyPost_ret (by simp [results,Tryz.results14,go_sem,e0,e1];rfl) rfl ?_
    exact ⟨2,(i:Int),rfl,HX.1,HX.2⟩
  | none ha =>
    have HNA:Hid (∀ j,j < n→ndk nmp flp F j):=ha
    have hK:=mis_kn ha
    have HKN:Hid (Kn F n):=hK
    have c0:=(show Rs w4 w.heap.size (.slice pf n cf)∧Kz w w4 from HS4).1.ct
    have hcd:=(show ∀ W,Kz w W→0 < n→n≤3000→Kn F n→_ from HD) w4 HS4.2 HG.1 HG.2.1 hK
    clear ha hK HD
    go_wp2_with fail
    refine hcd.mono ?_
    rintro e w5 ⟨⟨r,rfl,hdis⟩,k5'⟩
    have k5:=kz_of k5'
    have HS5:Hid (Rs w5 w.heap.size (.slice pf n cf)∧Kz w w5):=(⟨HS4.1.kz k5,HS4.2.trans k5⟩:_∧_)
    clear HS4 k5 k5' c0 hcd
    cases hdis with
    | «at» i hi ha hd =>
      have hFl:Fl nmp flp F n 3 (i:Int):=.order i HG.1 HG.2.1 HG.2.2 HNA hi ha hd
      clear ha hd
      have hrs:=(show Rs w5 w.heap.size (.slice pf n cf)∧Kz w w5 from HS5)
      have HX:Hid (Fl nmp flp F n 3 (i:Int)∧Kz w ((w5.setCell ⟨w.heap.size+1,0,none⟩ (.int .i64 3)).setCell ⟨w.heap.size+1,1,none⟩ (.int .i64 (i:Int)))):=(⟨hFl,(hrs.1.retz hrs.2 3 (i:Int)).2.2⟩:_∧_)
      have e0:=(hrs.1.retz hrs.2 3 (i:Int)).1
      have e1:=(hrs.1.retz hrs.2 3 (i:Int)).2.1
      have c1:=hrs.1.r0
      have c2:=hrs.1.r1
      have c3:=hrs.1.z0
      have c4:=hrs.1.z1
      clear hrs hFl
      go_wp2_with fail
      refine bodyPost_ret (by simp [results,Tryz.results14,go_sem,e0,e1];rfl) rfl ?_
      exact ⟨3,(i:Int),rfl,HX.1,HX.2⟩
    | last ha hd =>
      have hFl:Fl nmp flp F n 3 ((n:Int) - 1):=.whole HG.1 HG.2.1 HG.2.2 HNA ha hd
      have hn1 : 0≤(n:Int) - 1:=by have:=(show 0 < n∧_ from HG).1;omega
      clear ha hd
      obtain ⟨rr,hrr⟩:∃ rr,rr=(n:Int) - 1:=⟨_,rfl⟩
      rw [← hrr] at hFl hn1 ⊢
      clear hrr
      have hrs:=(show Rs w5 w.heap.size (.slice pf n cf)∧Kz w w5 from HS5)
      have HX:Hid (Fl nmp flp F n 3 rr∧Kz w ((w5.setCell ⟨w.heap.size+1,0,none⟩ (.int .i64 3)).setCell ⟨w.heap.size+1,1,none⟩ (.int .i64 rr))):=(⟨hFl,(hrs.1.retz hrs.2 3 rr).2.2⟩:_∧_)
      have e0:=(hrs.1.retz hrs.2 3 rr).1
      have e1:=(hrs.1.retz hrs.2 3 rr).2.1
      have c1:=hrs.1.r0
      have c2:=hrs.1.r1
      have c3:=hrs.1.z0
      have c4:=hrs.1.z1
      clear hrs hFl
      go_wp2_with fail
      refine bodyPost_ret (by simp [results,Tryz.results14,go_sem,e0,e1];rfl) rfl ?_
      exact ⟨3,rr,rfl,HX.1,HX.2⟩
    | none ha hd =>
      have HND:Hid ((∀ j,j < n→szl F n j ≠ 0)∧szl F n (n - 1)=(n:Int)):=(⟨ha,hd⟩:_∧_)
      have c0:=(show Rs w5 w.heap.size (.slice pf n cf)∧Kz w w5 from HS5).1.ct
      have hct:=(show ∀ W,Kz w W→n≤3000→Kn F n→_ from HT) w5 HS5.2 HG.2.1 HKN
      clear ha hd HT
      go_wp2_with fail
      refine hct.mono ?_
      rintro e w6 ⟨⟨r,rfl,htd⟩,k6'⟩
      have k6:=kz_of k6'
      have HS6:Hid (Rs w6 w.heap.size (.slice pf n cf)∧Kz w w6):=(⟨HS5.1.kz k6,HS5.2.trans k6⟩:_∧_)
      clear HS5 k6 k6' c0 hct
      cases htd with
      | «at» i hi ha hd =>
        have hFl:Fl nmp flp F n 4 (i:Int):=.depth i HG.1 HG.2.1 HG.2.2 HNA HND.1 HND.2 hi ha hd
        clear ha hd
        have hrs:=(show Rs w6 w.heap.size (.slice pf n cf)∧Kz w w6 from HS6)
        have HX:Hid (Fl nmp flp F n 4 (i:Int)∧Kz w ((w6.setCell ⟨w.heap.size+1,0,none⟩ (.int .i64 4)).setCell ⟨w.heap.size+1,1,none⟩ (.int .i64 (i:Int)))):=(⟨hFl,(hrs.1.retz hrs.2 4 (i:Int)).2.2⟩:_∧_)
        have e0:=(hrs.1.retz hrs.2 4 (i:Int)).1
        have e1:=(hrs.1.retz hrs.2 4 (i:Int)).2.1
        have c1:=hrs.1.r0
        have c2:=hrs.1.r1
        have c3:=hrs.1.z0
        have c4:=hrs.1.z1
        clear hrs hFl
        go_wp2_with fail
        refine bodyPost_ret (by simp [results,Tryz.results14,go_sem,e0,e1];rfl) rfl ?_
        exact ⟨4,(i:Int),rfl,HX.1,HX.2⟩
      | none ha =>
        have hFl:Fl nmp flp F n 0 0:=.sound HG.1 HG.2.1 HG.2.2 HNA HND.1 HND.2 ha
        clear ha
        have hrs:=(show Rs w6 w.heap.size (.slice pf n cf)∧Kz w w6 from HS6)
        have HX:Hid (Fl nmp flp F n 0 0∧Kz w ((w6.setCell ⟨w.heap.size+1,0,none⟩ (.int .i64 0)).setCell ⟨w.heap.size+1,1,none⟩ (.int .i64 0))):=(⟨hFl,(hrs.1.retz hrs.2 0 0).2.2⟩:_∧_)
        have e0:=(hrs.1.retz hrs.2 0 0).1
        have e1:=(hrs.1.retz hrs.2 0 0).2.1
        have c1:=hrs.1.r0
        have c2:=hrs.1.r1
        have c3:=hrs.1.z0
        have c4:=hrs.1.z1
        clear hrs hFl
        go_wp2_with fail
        refine bodyPost_ret (by simp [results,Tryz.results14,go_sem,e0,e1];rfl) rfl ?_
        exact ⟨0,0,rfl,HX.1,HX.2⟩
theorem first_uniq {P:Nat→Prop} {i j:Nat} (hi:∀ k,k < i→P k) (hi':¬ P i) (hj:∀ k,k < j→P k) (hj':¬ P j):i=j:=by
  rcases Nat.lt_trichotomy i j with h | h | h
  · exact absurd (hj i h) hi'
  · exact h
  · exact absurd (hi j h) hj'
theorem Fl.uniq {nm fl:ByteArray→Prop} {F:Nat→Gv} {n:Nat} {c f c' f':Int} (h:Fl nm fl F n c f) (h':Fl nm fl F n c' f'):c=c'∧f=f':=by
  cases h with
  | none0 a=>cases h' with
    | none0 b=>exact ⟨rfl,rfl⟩
    | _=>exfalso;omega
  | shape i a1 a2 a3 a4 a5 a6=>cases h' with
    | none0 b=>exfalso;omega
    | shape j b1 b2 b3 b4 b5 b6=>exact ⟨rfl,by rw [first_uniq a5 a6 b5 b6]⟩
    | order j b1 b2 b3 b4=>exact absurd (b4 i a4) a6
    | whole b1 b2 b3 b4=>exact absurd (b4 i a4) a6
    | depth j b1 b2 b3 b4=>exact absurd (b4 i a4) a6
    | sound b1 b2 b3 b4=>exact absurd (b4 i a4) a6
  | order i a1 a2 a3 a4 a5 a6 a7=>cases h' with
    | none0 b=>exfalso;omega
    | shape j b1 b2 b3 b4 b5 b6=>exact absurd (a4 j b4) b6
    | order j b1 b2 b3 b4 b5 b6 b7=>exact ⟨rfl,by rw [first_uniq (P:=fun k=>szl F n k ≠ 0) a6 (fun z=>z a7) b6 (fun z=>z b7)]⟩
    | whole b1 b2 b3 b4 b5=>exact absurd a7 (b5 i a5)
    | depth j b1 b2 b3 b4 b5=>exact absurd a7 (b5 i a5)
    | sound b1 b2 b3 b4 b5=>exact absurd a7 (b5 i a5)
  | whole a1 a2 a3 a4 a5 a6=>cases h' with
    | none0 b=>exfalso;omega
    | shape j b1 b2 b3 b4 b5 b6=>exact absurd (a4 j b4) b6
    | order j b1 b2 b3 b4 b5 b6 b7=>exact absurd b7 (a5 j b5)
    | whole b1 b2 b3 b4 b5=>exact ⟨rfl,rfl⟩
    | depth j b1 b2 b3 b4 b5 b6=>exact absurd b6 a6
    | sound b1 b2 b3 b4 b5 b6=>exact absurd b6 a6
  | depth i a1 a2 a3 a4 a5 a6 a7 a8 a9=>cases h' with
    | none0 b=>exfalso;omega
    | shape j b1 b2 b3 b4 b5 b6=>exact absurd (a4 j b4) b6
    | order j b1 b2 b3 b4 b5 b6 b7=>exact absurd b7 (a5 j b5)
    | whole b1 b2 b3 b4 b5 b6=>exact absurd a6 b6
    | depth j b1 b2 b3 b4 b5 b6 b7 b8 b9=>exact ⟨rfl,by rw [first_uniq (P:=fun k=>dpr F n n k≤100) a8 (by omega) b8 (by omega)]⟩
    | sound b1 b2 b3 b4 b5 b6 b7=>have:=b7 i a7;omega
  | sound a1 a2 a3 a4 a5 a6 a7=>cases h' with
    | none0 b=>exfalso;omega
    | shape j b1 b2 b3 b4 b5 b6=>exact absurd (a4 j b4) b6
    | order j b1 b2 b3 b4 b5 b6 b7=>exact absurd b7 (a5 j b5)
    | whole b1 b2 b3 b4 b5 b6=>exact absurd a6 b6
    | depth j b1 b2 b3 b4 b5 b6 b7 b8 b9=>have:=a7 j b7;omega
    | sound b1 b2 b3 b4 b5 b6 b7=>exact ⟨rfl,rfl⟩
theorem cell_keepz {a W:World} {b o:Nat} {v:Value} (h:Kz a W) (hc:a.cell? ⟨b,o,none⟩=some v):W.cell? ⟨b,o,none⟩=some v:=(h.cell (p:=⟨b,o,none⟩) (lt_of_cell hc)).trans hc
theorem cell_new1 (W:World) (v:Value) (t:TypeId):(W.alloc (.cells #[v] t)).cell? ⟨W.heap.size,0,none⟩=some v:=by
  rw [World.cell?_alloc_at _ _ _ _ rfl];rfl
theorem smr_p {F:Nat→Gv} {n:Nat} (h:n+smr F n≤1048576):(∀ i,i < n→(F i).p≤1048576)∧∀ i,i < n→(F i).q≤1048576:=by
  constructor
  all_goals
    intro i hi
    have hsu:=smr_mono F (show i+1≤n from hi)
    have hss:smr F (i+1)=smr F i+(F i).p+(F i).q:=rfl
    omega
section
variable {H:Type} {enc:TypeId × Value→H} {w:World} {base:Nat} {sp:Nat→Bool} {held:Bool}
theorem read_num {fuel : Nat} {cs : List Value} {x : DataW H × List MemPlace} {b : Addr} (h : DataW.trod enc Tryz.prog w base sp held fuel 128 cs = some x) (hc : w.cells? base b 9 = some cs) :
    ∃ z:Int,w.cell? ⟨b.block,b.off+5,none⟩=some (.int .i64 z) ∧ -9223372036854775808≤z∧z≤9223372036854775807:=by
  obtain ⟨_,hlen,hcell⟩:=World.cells?_some hc
  obtain ⟨xs,n,_,rfl,hl,hxl,hf⟩:=DataW.trod_struct Tryz.underlying128 h
  match cs,hlen with
  | [c0,c1,c2,c3,c4,c5,c6,c7,c8],_ =>
    match xs,hxl with
    | [y0,y1,y2,y3,y4,y5,y6,y7,y8],_ =>
      have t5:=hf 5 _ rfl
      simp [cells2] at t5
      obtain ⟨z5,e5,_,g5⟩:=DataW.trod_int Tryz.underlying2 t5
      simp only [List.cons.injEq,and_true] at e5
      subst e5
      refine ⟨z5,?_,?_,?_⟩
      · have:=hcell 5 (by omega);simpa [Addr.add] using this
      · have:=g5;simp [Lit.wf,IntKind.min,IntKind.max,IntKind.signed,IntKind.bits] at this;omega
      · have:=g5;simp [Lit.wf,IntKind.min,IntKind.max,IntKind.signed,IntKind.bits] at this;omega
theorem read_forms2 {fuel : Nat} {cs : List Value} {x : DataW H × List MemPlace} (h : DataW.trod enc Tryz.prog w base sp held fuel 22 cs = some x) (hz : Sz 22 x.1) :
    ∃ (pa:Option Addr) (ca n:Nat) (F:Nat→Gv),cs = [.slice pa n ca]∧RowF w (.slice pa n ca) n F∧(n:Int) < 140737488355328∧(∀ i,i < n→((F i).a.x.size:Int) < 140737488355328∧((F i).p:Int) < 140737488355328∧(∀ j,j < (F i).p→(((F i).A j).size:Int) < 140737488355328)∧((F i).q:Int) < 140737488355328)∧∀ i,i < n → -9223372036854775808≤(F i).a.m∧(F i).a.m≤9223372036854775807:=by
  obtain ⟨pa,ca,n,F,rfl,hR,hn,hF⟩:=read_forms h hz
  refine ⟨pa,ca,n,F,rfl,hR,hn,hF,fun i hi=>?_⟩
  obtain ⟨pf,cf,e1,hf2⟩:=hR
  obtain ⟨c,e2,_,hrc⟩:=hf2 (by omega)
  obtain ⟨vn,vk,hc9,_,_⟩:=hrc i hi
  rcases Deep.open_slice Tryz.underlying22 h with ⟨e3,rfl⟩ | ⟨a,len,cap,m,k,D,Pl,e3,hb,hl,hm,hmm,rfl,hx⟩
  · simp only [List.cons.injEq,Value.slice.injEq,and_true] at e3
    omega
  · have hle:len≤m:=by rw [hmm];split <;> omega
    simp only [List.cons.injEq,Value.slice.injEq,and_true] at e3
    obtain ⟨e4,e5,_⟩:=e3
    simp only [Value.slice.injEq] at e1
    obtain ⟨e6,_⟩:=e1
    have e7:a=c:=by rw [e4] at e6;rw [← e6] at e2;exact Option.some.inj e2
    rw [cells47] at hx
    obtain ⟨cs',h1,h2⟩:=hx i (by omega)
    obtain ⟨z,q1,q2,q3⟩:=read_num h2 h1
    rw [e7] at q1
    have q4:=hc9.c5
    rw [q1] at q4
    have e8:z=(F i).a.m:=by simpa using q4
    omega
end
end Go.Proofs.YtjggnnmnegcpjaaGreatDoor.Fo
namespace Go.Proofs.YtjggnnmnegcpjaaGreatDoor
open Go.ChangeShapes Go.WideShapes Go.ChangeAt Go.RowKit
set_option linter.unusedVariables false
def strData {H:Type} (ls:List (List UInt8)):DataW H:=.agg (ls.map fun l=>.lit (.string l))
def strVals (ls:List (List UInt8)):List Value:=ls.map fun l=>Value.string ⟨l.toArray⟩
theorem strs_cells {H : Type} {enc : TypeId × Value → H} {P : Program} {w : World} {base : Nat} {sp : Nat → Bool} {held : Bool} {fuel : Nat} {t e : TypeId} {n : Nat} {cs : List Value} {ls : List (List UInt8)} {p : List MemPlace}
    (ht:P.underlying t=some (.array n e)) (he:P.underlying e=some .string) (hce:P.cellsOf e=1) (hct:P.cellsOf t=n)
    (h:DataW.trod enc P w base sp held fuel t cs=some (strData ls,p)):cs=strVals ls:=by
  cases fuel with
  | zero=>simp [DataW.trod] at h
  | succ fuel =>
    simp only [DataW.trod,ht,hce,hct,Nat.mul_one] at h
    split at h
    · rename_i hl
      obtain ⟨xs,hm,hx⟩:=Option.map_eq_some_iff.1 h
      have h1:=congrArg Prod.fst hx
      simp only [strData,DataW.agg.injEq] at h1
      have hlen:=Lib.mapM_length hm
      have hll:ls.length=n:=by
        have:=congrArg List.length h1
        simp at this hlen
        omega
      refine List.ext_getElem? fun i=>?_
      rcases Nat.lt_or_ge i n with hi | hi
      · obtain ⟨b,hb,hf⟩:=Lib.mapM_at hm i i (by simp [hi])
        obtain ⟨s,hc,hs,_⟩:=DataW.trod_string he hf
        have hci:cs[i]? = some (.string s):=by
          have:=congrArg (·[0]?) hc
          simpa [List.getElem?_take,List.getElem?_drop] using this
        have hbi:(xs.map (·.1))[i]? = some (.lit (.string s.data.toList)):=by simp [hb,hs]
        have hli:(ls.map fun l=>(DataW.lit (.string l):DataW H))[i]? = some (.lit (.string s.data.toList)):=by rw [← hbi,← h1]
        rw [List.getElem?_map,Option.map_eq_some_iff] at hli
        obtain ⟨l,hl2,hl3⟩:=hli
        have hl4:l=s.data.toList:=by simpa using hl3
        rw [hci,strVals,List.getElem?_map,hl2,hl4]
        simp
      · rw [List.getElem?_eq_none (by omega),List.getElem?_eq_none (by simp [strVals];omega)]
    · cases h
theorem strs_head {P : Program} {W : World} {name : String} {ls : List (List UInt8)} {rest : List (String × DataW Unit)} {g : Nat} {t e : TypeId} {n : Nat}
    (hg:P.globalNamed name=some g) (hty:(P.globals[g]?).map (·.type)=some t) (ht:P.underlying t=some (.array n e)) (he:P.underlying e=some .string) (hce:P.cellsOf e=1) (hct:P.cellsOf t=n)
    (h:laidMet P ((name,strData ls) :: rest) W):W.rangeAt g 0 (strVals ls):=by
  obtain ⟨ps,⟨g',t',cs,fuel,p,q,hg',ht',hvar,hd,_,_⟩,_⟩:=h
  obtain rfl:=Option.some.inj (hg.symm.trans hg')
  obtain rfl:=Option.some.inj (hty.symm.trans ht')
  intro j v hv
  have h1:=World.var?_cell hg hvar j
  rw [Nat.zero_add,h1,← hv,← strs_cells ht he hce hct hd]
  simp
theorem gW:Tryz.prog.globalNamed "loop.example/heddle/impl.words" = some 0:=by kernel_rfl
theorem gM:Tryz.prog.globalNamed "loop.example/heddle/impl.marks" = some 1:=by kernel_rfl
theorem gX:Tryz.prog.globalNamed "loop.example/heddle/impl.infixes" = some 2:=by kernel_rfl
theorem gS:Tryz.prog.globalNamed "strconv.ErrSyntax" = some 10:=by kernel_rfl
theorem gR:Tryz.prog.globalNamed "strconv.ErrRange" = some 11:=by kernel_rfl
theorem tyW:(Tryz.prog.globals[0]?).map (·.type)=some 244:=by kernel_rfl
theorem tyM:(Tryz.prog.globals[1]?).map (·.type)=some 245:=by kernel_rfl
theorem tyX:(Tryz.prog.globals[2]?).map (·.type)=some 246:=by kernel_rfl
theorem tyS:(Tryz.prog.globals[10]?).map (·.type)=some 121:=by kernel_rfl
theorem tyR:(Tryz.prog.globals[11]?).map (·.type)=some 121:=by kernel_rfl
theorem cW:Tryz.prog.cellsOf 244=22:=by kernel_rfl
theorem cM:Tryz.prog.cellsOf 245=11:=by kernel_rfl
theorem cX:Tryz.prog.cellsOf 246=18:=by kernel_rfl
theorem cE:Tryz.prog.cellsOf 319=1:=by kernel_rfl
theorem cS:Tryz.prog.cellsOf 9=1:=by kernel_rfl
theorem star : "*" ++ "errors.errorString" = "*errors.errorString" := by decide
theorem rowE (u:TypeId) (h:Tryz.prog.typeName? 3 u=some "*errors.errorString"):u=317 :=
  typeName_ptr_named (nm := "errors.errorString") (by rw [star];kernel_rfl) (by kernel_rfl) (by decide) u (by rw [star];exact h)
theorem gd_laid {W:World} (h:laidMet Tryz.prog Rows.fnExactSheetOkRow.laid W):Gd W:=by
  have h3:=laidMet.tail (laidMet.tail (laidMet.tail h))
  have h4:=laidMet.tail h3
  have h5:=laidMet.tail h4
  have h6:=laidMet.tail h5
  have h7:=laidMet.tail h6
  obtain ⟨ar,sr,hvr,_⟩:=laid_sentinel h3 gR tyR Tryz.underlying121 rowE Tryz.underlying317 Tryz.underlying319 rfl rfl Tryz.underlying9 cE cS
  obtain ⟨ay,ss,hvs,_⟩:=laid_sentinel h4 gS tyS Tryz.underlying121 rowE Tryz.underlying317 Tryz.underlying319 rfl rfl Tryz.underlying9 cE cS
  have e7:W.cell? ⟨11,0,none⟩=some (.iface 317 (.pointer (some ar))):=by have h0:=World.var?_cell gR hvr 0;simpa using h0
  have e6:W.cell? ⟨10,0,none⟩=some (.iface 317 (.pointer (some ay))):=by have h0:=World.var?_cell gS hvs 0;simpa using h0
  exact ⟨strs_head (ls:=wordsL) gW tyW Tryz.underlying244 Tryz.underlying9 cS cW h5,strs_head (ls:=marksL) gM tyM Tryz.underlying245 Tryz.underlying9 cS cM h6,strs_head (ls:=infixL) gX tyX Tryz.underlying246 Tryz.underlying9 cS cX h7,⟨_,_,e7⟩,⟨_,_,e6⟩,(by have h9:=Rd.lt_of_cell e7;omega)⟩
theorem kept_vars {H : Type} {enc : TypeId × Value → H} {P : Program} (hl : laidOutB P = true) {W W' : World} (hk : ∀ i, i < W.heap.size → W'.heap[i]? = W.heap[i]?) :
    ∀ {ns:List String} {gs:List (DataW H)} {ps:List MemPlace},varsRowed P ns=true→DataW.TrodVars enc P W (fun _=>true) ns gs ps→DataW.TrodVars enc P W' (fun b=>decide (b < W.heap.size)) ns gs ps
  | [],[],_,_,h=>h
  | [],_ :: _,_,_,h=>h.elim
  | _ :: _,[],_,_,h=>h.elim
  | n :: ns,d :: ds,ps,hv,h=>by
    have hin:=h.lt
    obtain ⟨g,t,cs,fuel,p,q,hg,hty,hc,hd,hr,hps⟩:=h
    subst hps
    have hv1:=hv
    unfold varsRowed at hv1
    rw [List.all_cons,Bool.and_eq_true,hg] at hv1
    have hrow:P.readableRec t=true∧t < P.types.size:=by
      cases hgl:P.globals[g]? with
      | none=>rw [hgl] at hty;cases hty
      | some gl =>
        rw [hgl] at hty
        have e:gl.type=t:=Option.some.inj hty
        have h1:=hv1.1
        rw [show (some g).bind (P.globals[·]?)=some gl from hgl] at h1
        subst e
        simpa using h1
    have hold:∀ x ∈ p,x.block < W.heap.size:=fun x hx=>hin x (by simp [hx])
    have hgs:g < W.heap.size:=by
      unfold World.var? at hc
      rw [hg] at hc
      cases hh:W.heap[g]? with
      | none=>simp [hh] at hc
      | some o=>exact (Array.getElem?_eq_some_iff.1 hh).1
    refine ⟨g,t,cs,fuel,p,q,hg,hty,?_,?_,kept_vars hl hk (by unfold varsRowed;exact hv1.2) hr,rfl⟩
    · rw [← hc]
      unfold World.var?
      rw [hg]
      simp only [Option.bind_some]
      rw [hk g hgs]
    · refine DataW.trod_stays (kids_book hl hrow.1) (book_sized hrow.1) (fun h=>by cases h) ⟨hrow.2,book_self t⟩ hd (fun x hx=>?_) (fun x hx=>by simpa using hold x hx)
      have hb:=hold x hx
      cases x with
      | cell b o=>exact World.cell?_of_block (w:=W) (hk b hb)
      | map b=>exact hk b hb
theorem vars_three {H:Type} {enc:TypeId × Value→H} {P:Program} {W:World} {sp:Nat→Bool} {a b c:String} {gs:List (DataW H)} {ps:List MemPlace} (h:DataW.TrodVars enc P W sp [a,b,c] gs ps):∃ x y z,gs = [x,y,z]:=by
  match gs,h with
  | [],h=>exact h.elim
  | [x],h=>obtain ⟨_,_,_,_,_,_,_,_,_,_,h,_⟩:=h;exact h.elim
  | [x,y],h=>obtain ⟨_,_,_,_,_,_,_,_,_,_,h,_⟩:=h;obtain ⟨_,_,_,_,_,_,_,_,_,_,h,_⟩:=h;exact h.elim
  | [x,y,z],h=>exact ⟨x,y,z,rfl⟩
  | x :: y :: z :: u :: r,h=>obtain ⟨_,_,_,_,_,_,_,_,_,_,h,_⟩:=h;obtain ⟨_,_,_,_,_,_,_,_,_,_,h,_⟩:=h;obtain ⟨_,_,_,_,_,_,_,_,_,_,h,_⟩:=h;exact h.elim
end Go.Proofs.YtjggnnmnegcpjaaGreatDoor
