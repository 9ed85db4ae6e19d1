import Derived.Test.YtomcmnompajnlaaGreatDoorOXPaa
import Derived.Test.YtomcmnompajnlaaGreatDoorOXReg
import Derived.Deep.RegionHeldLaw
set_option maxRecDepth 100000
set_option maxHeartbeats 8000000
namespace Go.Proofs.YtomcmnompajnlaaGreatDoor.Fo
open Go.ChangeShapes Go.WideShapes Go.ChangeAt Go.RowKit
set_option linter.unusedVariables false
structure Ot (w:World) (o:Nat) (vf:Value) (pre:List En) (v:Value) (W:World):Prop where
  kz:Kz w W
  lo:w.heap.size≤o
  ob:W.heap[o]? = some (.cells #[vf,v] 80 (0,0))
  row:W.ownsRow (o+1) 84 4 v pre.length (pre.flatMap ec)
theorem Ot.shape {w:World} {o:Nat} {vf:Value} {pre:List En} {v:Value} {W:World} (h:Ot w o vf pre v W):∃ (ad:Option Addr) (cap:Nat),v = .slice ad pre.length cap:=by
  rcases h.row.2 with ⟨rfl,e⟩ | ⟨g,cap,cur,rfl,_⟩
  · exact ⟨none,0,by rw [show pre.length=0 from e]⟩
  · exact ⟨_,cap,rfl⟩
theorem Ot.lt {w:World} {o:Nat} {vf:Value} {pre:List En} {v:Value} {W:World} (h:Ot w o vf pre v W):o < W.heap.size:=by
  rcases Nat.lt_or_ge o W.heap.size with g | g
  · exact g
  · have:=h.ob
    rw [Array.getElem?_eq_none g] at this
    cases this
theorem Ot.on {w:World} {o:Nat} {vf:Value} {pre:List En} {v:Value} {W W':World} (h:Ot w o vf pre v W) (hb:Kz W W'):Ot w o vf pre v W' :=
  ⟨h.kz.trans hb,h.lo,(hb.block _ h.lt).trans h.ob,rowBlk h.row (fun g e=>hb.block g (h.row.lt g e).2)⟩
theorem Ot.add {w : World} {o : Nat} {vf : Value} {pre : List En} {v v' : Value} {A w7 : World} {E : Obj} {e : En} (h : Ot w o vf pre v A) (ho : w7.ownsRow (o + 1) 84 4 v' (pre.length + 1) (pre.flatMap ec ++ ec e)) (hg : (A.alloc E).grownBy w7 v.ownBlock) :
    w7.cell? ⟨o,1,none⟩=some v∧w7.frozen? ⟨o,1,none⟩=false∧(∀ k,k < A.heap.size→some k ≠ v.ownBlock→w7.heap[k]? = A.heap[k]?)∧Ot w o vf (pre ++ [e]) v' (w7.setCell ⟨o,1,none⟩ v'):=by
  have hblk:∀ k,k < A.heap.size→some k ≠ v.ownBlock→w7.heap[k]? = A.heap[k]?:=fun k hk hne=>(hg.block k (by simp;omega) hne).trans (Below.heap_alloc _ _ _ hk)
  have hlow:∀ k,k≤o→w7.heap[k]? = A.heap[k]?:=fun k hk=>hblk k (by have:=h.lt;omega) (fun e2=>by have:=(h.row.lt k e2.symm).1;omega)
  have hf:=(hlow o (Nat.le_refl _)).trans h.ob
  have hgs:=hg.size
  simp at hgs
  have hse:∀ k,k ≠ o→(w7.setCell ⟨o,1,none⟩ v').heap[k]? = w7.heap[k]?:=fun k hne=>Below.heap_setCell w7 _ _ _ hne
  refine ⟨by simp [World.cell?,hf],by simp [World.frozen?,hf],hblk,⟨hg.os.trans h.kz.os,hg.output.trans h.kz.output,by have:=h.kz.size;simp;omega,fun k hk=>?_⟩,h.lo,?_,?_⟩
  · have:=h.lo
    rw [hse k (by omega),hlow k (by omega)]
    exact h.kz.block k hk
  · simp [World.setCell,Array.getElem?_modify,hf]
  · rw [List.length_append,List.flatMap_append]
    refine rowBlk (W:=w7) (by simpa using ho) (fun g e2=>hse g ?_)
    have:=(ho.lt g e2).1
    omega
def WkC (F:Nat→Gv) (n b:Nat):Prop:=∀ (w:World) (o cf:Nat) (cd:Addr) (pre:List En) (v:Value) (W:World) (i:Nat) (x:ByteArray) (d:Int),i < b→i < n→0≤d→d+(b:Int)≤6000→x.size≤140737488355328→RowF w (.slice (some cd) n cf) n F→Ot w o (.slice (some cd) n cf) pre v W→pre.length+(ol F b i x d).length≤3000 →
  Calls Tryz.prog 48 #[.pointer (some ⟨o,0,none⟩),.int .i64 (i:Int),.string x,.int .i64 d] W fun e W'=>e = .returned (.tuple #[])∧∃ v',Ot w o (.slice (some cd) n cf) (pre ++ ol F b i x d) v' W'
theorem im_ol_0 {F : Nat → Gv} {n b : Nat} (hK : Kn F n) (hn : n ≤ 3000) (hq : ∀ i, i < n → (F i).q ≤ 200) (hA : ∀ i, i < n → ∀ j, j < (F i).p → ((F i).A j).size ≤ 140737488355328) (ih : WkC F n b) (w : World) (o cf : Nat) (cd : Addr) (pre : List En) (v : Value) (W : World) (i : Nat) (x : ByteArray) (d : Int) (hi : i < b + 1) (hin : i < n) (hd0 : 0 ≤ d) (hdb : d + ((b + 1 : Nat) : Int) ≤ 6000) (hx : x.size ≤ 140737488355328) (hf : RowF w (.slice (some cd) n cf) n F) (hO : Ot w o (.slice (some cd) n cf) pre v W) (hle : pre.length + (ol F (b + 1) i x d).length ≤ 3000) (hk : (F i).a.k ≠ 36) (hk4 : (F i).a.k ≠ 4) :
    Calls Tryz.prog 48 #[.pointer (some ⟨o,0,none⟩),.int .i64 (i:Int),.string x,.int .i64 d] W fun e W'=>e = .returned (.tuple #[])∧∃ v',Ot w o (.slice (some cd) n cf) (pre ++ ol F (b+1) i x d) v' W':=by
  have HRF:Hid (RowF w (.slice (some cd) n cf) n F):=hf
  have HIH:Hid (WkC F n b):=ih
  have HLE:Hid (pre.length+(ol F (b+1) i x d).length≤3000):=hle
  have HKN:Hid (Kn F n∧i < n∧i < b+1):=(⟨hK,hin,hi⟩:_∧_∧_)
  have hnm1:hnm (F i)=ByteArray.empty:=by unfold hnm;rw [if_neg hk4]
  have hdp1:hdp (F i) d=d:=by unfold hdp;rw [if_neg hk]
  have hhd:hd (F i) i x d = []:=by unfold hd;rw [if_neg hk]
  have hqi:((F i).q:Int)≤200:=by have:=hq i hin;omega
  obtain ⟨_,_,hsl,hf2⟩:=hf
  obtain ⟨cd',hcd,hcc,hrc⟩:=hf2 (by omega)
  simp only [Value.slice.injEq] at hsl
  obtain ⟨rfl,_,rfl⟩:=hsl
  simp only [Option.some.injEq] at hcd
  subst hcd
  obtain ⟨vn,vk,hc9,hrn,hrk⟩:=(hrc i hin).kz hO.kz
  obtain ⟨pn,cn,rfl,hn2⟩:=hrn
  obtain ⟨pk,ck,rfl,hk2⟩:=hrk
  obtain ⟨e0,e1,e2,e3,e4,e5,e6,e7,e8⟩:=hc9
  have c0:W.cell? ⟨o,0,none⟩=some (.slice (some cd) n cf):=by simp [World.cell?,hO.ob]
  have hnI:(n:Int)≤3000:=by omega
  have hiI:(i:Int) < (n:Int):=by omega
  have HK2:Hid (0 < (F i).q→∃ a:Addr,pk=some a∧(F i).q≤ck∧∀ j,j < (F i).q→w.cell? (a.add j)=some (.int .i64 ((F i).K j))):=by
    obtain ⟨vn',vk',hc',_,⟨pk',ck',rfl,hk'⟩⟩:=hrc i hin
    have q8:=(hO.kz.cell (p:=⟨(cd.add (i*9)).block,(cd.add (i*9)).off+8,none⟩) (lt_of_cell' hc'.c8)).trans hc'.c8
    rw [e8] at q8
    simp only [Option.some.injEq,Value.slice.injEq] at q8
    obtain ⟨rfl,_,rfl⟩:=q8
    exact hk'
  have HDB:Hid (d+((b+1:Nat):Int)≤6000∧(ByteArray.empty).size≤140737488355328):=(⟨hdb,by decide⟩:_∧_)
  have hd9:d≤6000:=by omega
  have HO:Hid (Ot w o (.slice (some cd) n cf) pre v W):=hO
  have H0:Hid (Ot w o (.slice (some cd) n cf) (pre ++ hd (F i) i x d) v (W.alloc (.cells #[.int .i64 (F i).a.k,.int .i64 (F i).a.f,.int .i64 (F i).a.t,.int .i64 (F i).a.l,.int .i64 (F i).a.o,.int .i64 (F i).a.m,.string (F i).a.x,.slice pn (F i).p cn,.slice pk (F i).q ck] 64))):=by
    rw [hhd,List.append_nil]
    exact hO.on (.of_below (bel1 _ _))
  clear hf2 hrc hn2 hk2 hK hq hn ih hcc hA hO HO
  have hk36:((F i).a.k == 36)=false:=by simpa using hk
  have hk4f:((F i).a.k == 4)=false:=by simpa using hk4
  go_enter Tryz.func48,Tryz.ntmps48
  go_wp2_with fail
  go_loopw [49] (fun s49 wr=>∃ (j:Nat) (vj:Value),s49 = .int .i64 (j:Int)∧j≤(F i).q∧Hid (Ot w o (.slice (some cd) n cf) (pre ++ hd (F i) i x d ++ olk (fun k=>ol F b k (hnm (F i)) (hdp (F i) d)) (F i).K j) vj wr)) (fun s49 _=>(F i).q - (intOf s49).toNat)
  case atStart=>exact ⟨0,v,rfl,Nat.zero_le _,by simpa [olk] using H0⟩
  case round =>
    clear H0 e0 e1 e2 e3 e4 e5 e6 e7 e8 c0
    obtain ⟨j,vj,rfl,hjq,HG⟩:=hrel
    rcases Nat.lt_or_ge j (F i).q with hj | hj
    case inr =>
      have hjI:¬ (j:Int) < ((F i).q:Int):=by omega
      have HX:Hid (∃ v',Ot w o (.slice (some cd) n cf) (pre ++ ol F (b+1) i x d) v' wr):=by
        have ej:j=(F i).q:=by omega
        rw [ej,List.append_assoc] at HG
        exact (⟨vj,HG⟩:∃ v',Ot w o (.slice (some cd) n cf) (pre ++ ol F (b+1) i x d) v' wr)
      clear HG HRF HIH HLE HKN HK2 HDB
      go_wp2_with fail
      exact ⟨rfl,.tuple #[],by simp [results,Tryz.results48],rfl,HX⟩
    have hjI:(j:Int) < ((F i).q:Int):=by omega
    have hg:=(show Ot w o (.slice (some cd) n cf) (pre ++ hd (F i) i x d ++ olk (fun k=>ol F b k (hnm (F i)) (hdp (F i) d)) (F i).K j) vj wr from HG)
    obtain ⟨ak,rfl,hck,hkr⟩:=(show 0 < (F i).q→∃ a:Addr,pk=some a∧(F i).q≤ck∧∀ j,j < (F i).q→w.cell? (a.add j)=some (.int .i64 ((F i).K j)) from HK2) (by omega)
    obtain ⟨hK,hin',hib⟩:=(show Kn F n∧i < n∧i < b+1 from HKN)
    have hk0:=hK i hin' j hj
    obtain ⟨kn,hkn⟩:∃ kn:Nat,(F i).K j=(kn:Int):=⟨((F i).K j).toNat,by omega⟩
    have qa:=(hg.kz.cell (lt_of_cell' (hkr j hj))).trans (hkr j hj)
    rw [hkn] at qa hk0
    obtain ⟨hdb',hxb⟩:=(show d+((b+1:Nat):Int)≤6000∧(ByteArray.empty).size≤140737488355328 from HDB)
    have hpre:pre ++ hd (F i) i x d ++ olk (fun k=>ol F b k (hnm (F i)) (hdp (F i) d)) (F i).K (j+1)=(pre ++ hd (F i) i x d ++ olk (fun k=>ol F b k (hnm (F i)) (hdp (F i) d)) (F i).K j) ++ ol F b kn (hnm (F i)) (hdp (F i) d):=by
      rw [List.append_assoc (pre ++ hd (F i) i x d)]
      show _ ++ (olk _ _ j ++ ol F b ((F i).K j).toNat _ _) = _
      rw [hkn,Int.toNat_natCast]
    have hlen:(pre ++ hd (F i) i x d ++ olk (fun k=>ol F b k (hnm (F i)) (hdp (F i) d)) (F i).K j).length+(ol F b kn (hnm (F i)) (hdp (F i) d)).length≤3000:=by
      have hl1:=olk_mono (fun k=>ol F b k (hnm (F i)) (hdp (F i) d)) (F i).K (j+1) (F i).q (by omega)
      have hl2:pre.length+(hd (F i) i x d ++ olk (fun k=>ol F b k (hnm (F i)) (hdp (F i) d)) (F i).K (F i).q).length≤3000:=HLE
      have hl3:=congrArg List.length hpre
      simp only [List.length_append] at hl1 hl2 hl3 ⊢
      omega
    have hcall:=(show WkC F n b from HIH) w o cf cd _ vj wr kn (hnm (F i)) (hdp (F i) d) (by omega) (by omega) (by have:=hdp_in (F i) d;omega) (by have:=hdp_in (F i) d;omega) (by rw [hnm1];exact hxb) HRF hg hlen
    rw [← hpre,hnm1,hdp1] at hcall
    clear hg hpre hlen hK hkr hkn hdb' hxb HG
    go_wp2_with fail
    refine hcall.mono ?_
    rintro e w1 ⟨rfl,v',h1⟩
    have HX:Hid (Ot w o (.slice (some cd) n cf) (pre ++ hd (F i) i x d ++ olk (fun k=>ol F b k (hnm (F i)) (hdp (F i) d)) (F i).K (j+1)) v' w1):=by
      rw [hnm1,hdp1]
      exact h1
    clear h1 hcall qa
    go_wp2_with fail
    go_roundw
    case rel=>exact ⟨j+1,v',by go_num,by omega,HX⟩
    case measure=>simp [intOf];omega
theorem im_ol_4 {F : Nat → Gv} {n b : Nat} (hK : Kn F n) (hn : n ≤ 3000) (hq : ∀ i, i < n → (F i).q ≤ 200) (hA : ∀ i, i < n → ∀ j, j < (F i).p → ((F i).A j).size ≤ 140737488355328) (ih : WkC F n b) (w : World) (o cf : Nat) (cd : Addr) (pre : List En) (v : Value) (W : World) (i : Nat) (x : ByteArray) (d : Int) (hi : i < b + 1) (hin : i < n) (hd0 : 0 ≤ d) (hdb : d + ((b + 1 : Nat) : Int) ≤ 6000) (hx : x.size ≤ 140737488355328) (hf : RowF w (.slice (some cd) n cf) n F) (hO : Ot w o (.slice (some cd) n cf) pre v W) (hle : pre.length + (ol F (b + 1) i x d).length ≤ 3000) (hk : (F i).a.k = 4) (hp1 : 0 < (F i).p) :
    Calls Tryz.prog 48 #[.pointer (some ⟨o,0,none⟩),.int .i64 (i:Int),.string x,.int .i64 d] W fun e W'=>e = .returned (.tuple #[])∧∃ v',Ot w o (.slice (some cd) n cf) (pre ++ ol F (b+1) i x d) v' W':=by
  have HRF:Hid (RowF w (.slice (some cd) n cf) n F):=hf
  have HIH:Hid (WkC F n b):=ih
  have HLE:Hid (pre.length+(ol F (b+1) i x d).length≤3000):=hle
  have HKN:Hid (Kn F n∧i < n∧i < b+1):=(⟨hK,hin,hi⟩:_∧_∧_)
  have hnm1:hnm (F i)=((F i).A 0):=by unfold hnm;rw [if_pos hk]
  have hdp1:hdp (F i) d=d:=by unfold hdp;rw [if_neg (by omega)]
  have hhd:hd (F i) i x d = []:=by unfold hd;rw [if_neg (by omega)]
  have hqi:((F i).q:Int)≤200:=by have:=hq i hin;omega
  obtain ⟨_,_,hsl,hf2⟩:=hf
  obtain ⟨cd',hcd,hcc,hrc⟩:=hf2 (by omega)
  simp only [Value.slice.injEq] at hsl
  obtain ⟨rfl,_,rfl⟩:=hsl
  simp only [Option.some.injEq] at hcd
  subst hcd
  obtain ⟨vn,vk,hc9,hrn,hrk⟩:=(hrc i hin).kz hO.kz
  obtain ⟨pn,cn,rfl,hn2⟩:=hrn
  obtain ⟨pk,ck,rfl,hk2⟩:=hrk
  obtain ⟨e0,e1,e2,e3,e4,e5,e6,e7,e8⟩:=hc9
  have c0:W.cell? ⟨o,0,none⟩=some (.slice (some cd) n cf):=by simp [World.cell?,hO.ob]
  have hnI:(n:Int)≤3000:=by omega
  have hiI:(i:Int) < (n:Int):=by omega
  have HK2:Hid (0 < (F i).q→∃ a:Addr,pk=some a∧(F i).q≤ck∧∀ j,j < (F i).q→w.cell? (a.add j)=some (.int .i64 ((F i).K j))):=by
    obtain ⟨vn',vk',hc',_,⟨pk',ck',rfl,hk'⟩⟩:=hrc i hin
    have q8:=(hO.kz.cell (p:=⟨(cd.add (i*9)).block,(cd.add (i*9)).off+8,none⟩) (lt_of_cell' hc'.c8)).trans hc'.c8
    rw [e8] at q8
    simp only [Option.some.injEq,Value.slice.injEq] at q8
    obtain ⟨rfl,_,rfl⟩:=q8
    exact hk'
  obtain ⟨an,rfl,hcn,hna⟩:=hn2 hp1
  have hpI : 0 < ((F i).p:Int):=by omega
  have hna0:=hna 0 hp1
  have na1:∀ u:Obj,(W.alloc u).cell? (an.add 0)=some (.string ((F i).A 0)):=fun u=>((bel1 W u).cell (lt_of_cell' hna0)).trans hna0
  have na2:∀ u:Obj,(W.alloc u).cell? an=some (.string ((F i).A 0)):=fun u=>by simpa [Addr.add] using na1 u
  have hxs:=hA i hin 0 hp1
  have HDB:Hid (d+((b+1:Nat):Int)≤6000∧(((F i).A 0)).size≤140737488355328):=(⟨hdb,hxs⟩:_∧_)
  have hd9:d≤6000:=by omega
  have HO:Hid (Ot w o (.slice (some cd) n cf) pre v W):=hO
  have H0:Hid (Ot w o (.slice (some cd) n cf) (pre ++ hd (F i) i x d) v (W.alloc (.cells #[.int .i64 (F i).a.k,.int .i64 (F i).a.f,.int .i64 (F i).a.t,.int .i64 (F i).a.l,.int .i64 (F i).a.o,.int .i64 (F i).a.m,.string (F i).a.x,.slice (some an) (F i).p cn,.slice pk (F i).q ck] 64))):=by
    rw [hhd,List.append_nil]
    exact hO.on (.of_below (bel1 _ _))
  clear hf2 hrc hn2 hk2 hK hq hn ih hcc hA hO HO hp1 hna hcn hna0 hxs
  have hk36:((F i).a.k == 36)=false:=by simp [hk]
  go_enter Tryz.func48,Tryz.ntmps48
  go_wp2_with fail
  go_loopw [49] (fun s49 wr=>∃ (j:Nat) (vj:Value),s49 = .int .i64 (j:Int)∧j≤(F i).q∧Hid (Ot w o (.slice (some cd) n cf) (pre ++ hd (F i) i x d ++ olk (fun k=>ol F b k (hnm (F i)) (hdp (F i) d)) (F i).K j) vj wr)) (fun s49 _=>(F i).q - (intOf s49).toNat)
  case atStart=>exact ⟨0,v,rfl,Nat.zero_le _,by simpa [olk,hk] using H0⟩
  case round =>
    clear H0 e0 e1 e2 e3 e4 e5 e6 e7 e8 c0 na1 na2
    obtain ⟨j,vj,rfl,hjq,HG⟩:=hrel
    rcases Nat.lt_or_ge j (F i).q with hj | hj
    case inr =>
      have hjI:¬ (j:Int) < ((F i).q:Int):=by omega
      have HX:Hid (∃ v',Ot w o (.slice (some cd) n cf) (pre ++ ol F (b+1) i x d) v' wr):=by
        have ej:j=(F i).q:=by omega
        rw [ej,List.append_assoc] at HG
        exact (⟨vj,HG⟩:∃ v',Ot w o (.slice (some cd) n cf) (pre ++ ol F (b+1) i x d) v' wr)
      clear HG HRF HIH HLE HKN HK2 HDB
      go_wp2_with fail
      exact ⟨rfl,.tuple #[],by simp [results,Tryz.results48],rfl,HX⟩
    have hjI:(j:Int) < ((F i).q:Int):=by omega
    have hg:=(show Ot w o (.slice (some cd) n cf) (pre ++ hd (F i) i x d ++ olk (fun k=>ol F b k (hnm (F i)) (hdp (F i) d)) (F i).K j) vj wr from HG)
    obtain ⟨ak,rfl,hck,hkr⟩:=(show 0 < (F i).q→∃ a:Addr,pk=some a∧(F i).q≤ck∧∀ j,j < (F i).q→w.cell? (a.add j)=some (.int .i64 ((F i).K j)) from HK2) (by omega)
    obtain ⟨hK,hin',hib⟩:=(show Kn F n∧i < n∧i < b+1 from HKN)
    have hk0:=hK i hin' j hj
    obtain ⟨kn,hkn⟩:∃ kn:Nat,(F i).K j=(kn:Int):=⟨((F i).K j).toNat,by omega⟩
    have qa:=(hg.kz.cell (lt_of_cell' (hkr j hj))).trans (hkr j hj)
    rw [hkn] at qa hk0
    obtain ⟨hdb',hxb⟩:=(show d+((b+1:Nat):Int)≤6000∧(((F i).A 0)).size≤140737488355328 from HDB)
    have hpre:pre ++ hd (F i) i x d ++ olk (fun k=>ol F b k (hnm (F i)) (hdp (F i) d)) (F i).K (j+1)=(pre ++ hd (F i) i x d ++ olk (fun k=>ol F b k (hnm (F i)) (hdp (F i) d)) (F i).K j) ++ ol F b kn (hnm (F i)) (hdp (F i) d):=by
      rw [List.append_assoc (pre ++ hd (F i) i x d)]
      show _ ++ (olk _ _ j ++ ol F b ((F i).K j).toNat _ _) = _
      rw [hkn,Int.toNat_natCast]
    have hlen:(pre ++ hd (F i) i x d ++ olk (fun k=>ol F b k (hnm (F i)) (hdp (F i) d)) (F i).K j).length+(ol F b kn (hnm (F i)) (hdp (F i) d)).length≤3000:=by
      have hl1:=olk_mono (fun k=>ol F b k (hnm (F i)) (hdp (F i) d)) (F i).K (j+1) (F i).q (by omega)
      have hl2:pre.length+(hd (F i) i x d ++ olk (fun k=>ol F b k (hnm (F i)) (hdp (F i) d)) (F i).K (F i).q).length≤3000:=HLE
      have hl3:=congrArg List.length hpre
      simp only [List.length_append] at hl1 hl2 hl3 ⊢
      omega
    have hcall:=(show WkC F n b from HIH) w o cf cd _ vj wr kn (hnm (F i)) (hdp (F i) d) (by omega) (by omega) (by have:=hdp_in (F i) d;omega) (by have:=hdp_in (F i) d;omega) (by rw [hnm1];exact hxb) HRF hg hlen
    rw [← hpre,hnm1,hdp1] at hcall
    clear hg hpre hlen hK hkr hkn hdb' hxb HG
    go_wp2_with fail
    refine hcall.mono ?_
    rintro e w1 ⟨rfl,v',h1⟩
    have HX:Hid (Ot w o (.slice (some cd) n cf) (pre ++ hd (F i) i x d ++ olk (fun k=>ol F b k (hnm (F i)) (hdp (F i) d)) (F i).K (j+1)) v' w1):=by
      rw [hnm1,hdp1]
      exact h1
    clear h1 hcall qa
    go_wp2_with fail
    go_roundw
    case rel=>exact ⟨j+1,v',by go_num,by omega,HX⟩
    case measure=>simp [intOf];omega
theorem im_ol_36 {F : Nat → Gv} {n b : Nat} (hK : Kn F n) (hn : n ≤ 3000) (hq : ∀ i, i < n → (F i).q ≤ 200) (hA : ∀ i, i < n → ∀ j, j < (F i).p → ((F i).A j).size ≤ 140737488355328) (ih : WkC F n b) (w : World) (o cf : Nat) (cd : Addr) (pre : List En) (v : Value) (W : World) (i : Nat) (x : ByteArray) (d : Int) (hi : i < b + 1) (hin : i < n) (hd0 : 0 ≤ d) (hdb : d + ((b + 1 : Nat) : Int) ≤ 6000) (hx : x.size ≤ 140737488355328) (hf : RowF w (.slice (some cd) n cf) n F) (hO : Ot w o (.slice (some cd) n cf) pre v W) (hle : pre.length + (ol F (b + 1) i x d).length ≤ 3000) (hk : (F i).a.k = 36) :
    Calls Tryz.prog 48 #[.pointer (some ⟨o,0,none⟩),.int .i64 (i:Int),.string x,.int .i64 d] W fun e W'=>e = .returned (.tuple #[])∧∃ v',Ot w o (.slice (some cd) n cf) (pre ++ ol F (b+1) i x d) v' W':=by
  have HRF:Hid (RowF w (.slice (some cd) n cf) n F):=hf
  have HIH:Hid (WkC F n b):=ih
  have HLE:Hid (pre.length+(ol F (b+1) i x d).length≤3000):=hle
  have HKN:Hid (Kn F n∧i < n∧i < b+1):=(⟨hK,hin,hi⟩:_∧_∧_)
  have hnm1:hnm (F i)=ByteArray.empty:=by unfold hnm;rw [if_neg (by omega)]
  have hdp1:hdp (F i) d=d+1:=by unfold hdp;rw [if_pos hk]
  have hhd:hd (F i) i x d = [⟨x,(F i).a.l,d,i⟩]:=by unfold hd;rw [if_pos hk]
  have hqi:((F i).q:Int)≤200:=by have:=hq i hin;omega
  obtain ⟨_,_,hsl,hf2⟩:=hf
  obtain ⟨cd',hcd,hcc,hrc⟩:=hf2 (by omega)
  simp only [Value.slice.injEq] at hsl
  obtain ⟨rfl,_,rfl⟩:=hsl
  simp only [Option.some.injEq] at hcd
  subst hcd
  obtain ⟨vn,vk,hc9,hrn,hrk⟩:=(hrc i hin).kz hO.kz
  obtain ⟨pn,cn,rfl,hn2⟩:=hrn
  obtain ⟨pk,ck,rfl,hk2⟩:=hrk
  obtain ⟨e0,e1,e2,e3,e4,e5,e6,e7,e8⟩:=hc9
  have c0:W.cell? ⟨o,0,none⟩=some (.slice (some cd) n cf):=by simp [World.cell?,hO.ob]
  have hnI:(n:Int)≤3000:=by omega
  have hiI:(i:Int) < (n:Int):=by omega
  have HK2:Hid (0 < (F i).q→∃ a:Addr,pk=some a∧(F i).q≤ck∧∀ j,j < (F i).q→w.cell? (a.add j)=some (.int .i64 ((F i).K j))):=by
    obtain ⟨vn',vk',hc',_,⟨pk',ck',rfl,hk'⟩⟩:=hrc i hin
    have q8:=(hO.kz.cell (p:=⟨(cd.add (i*9)).block,(cd.add (i*9)).off+8,none⟩) (lt_of_cell' hc'.c8)).trans hc'.c8
    rw [e8] at q8
    simp only [Option.some.injEq,Value.slice.injEq] at q8
    obtain ⟨rfl,_,rfl⟩:=q8
    exact hk'
  have HDB:Hid (d+((b+1:Nat):Int)≤6000∧(ByteArray.empty).size≤140737488355328):=(⟨hdb,by decide⟩:_∧_)
  have hd9:d≤6000:=by omega
  have HO:Hid (Ot w o (.slice (some cd) n cf) pre v W):=hO
  have hos:o < W.heap.size:=hO.lt
  obtain ⟨k,hkp⟩:∃ k,k=pre.length:=⟨_,rfl⟩
  have hkl:k+1≤3000:=by
    have h1:(ol F (b+1) i x d).length=(hd (F i) i x d).length+(olk (fun k=>ol F b k (hnm (F i)) (hdp (F i) d)) (F i).K (F i).q).length:=by show List.length (_ ++ _) = _;rw [List.length_append]
    rw [hhd] at h1
    simp only [List.length_cons,List.length_nil] at h1
    omega
  obtain ⟨i0,hi0,hz0,hz1,hz2⟩:=info_parts infoEnt
  have HI0:Hid (Tryz.prog.info? 84=some i0):=hi0
  have h1c:∀ u ∈ [(.string x:Value),.int .i64 (F i).a.l,.int .i64 d,.int .i64 (i:Int)],u.oneCell'=true:=by intro u hu;simp at hu;rcases hu with rfl | rfl | rfl | rfl <;> rfl
  have hcl:=clone_run x (by omega)
  obtain ⟨A,hA'⟩:∃ A,A=W.alloc (.cells #[.int .i64 36,.int .i64 (F i).a.f,.int .i64 (F i).a.t,.int .i64 (F i).a.l,.int .i64 (F i).a.o,.int .i64 (F i).a.m,.string (F i).a.x,.slice pn (F i).p cn,.slice pk (F i).q ck] 64):=⟨_,rfl⟩
  have hAz:A.heap.size=W.heap.size+1:=by rw [hA'];simp
  have hAt:A.heap[W.heap.size]? = some (.cells #[.int .i64 (F i).a.k,.int .i64 (F i).a.f,.int .i64 (F i).a.t,.int .i64 (F i).a.l,.int .i64 (F i).a.o,.int .i64 (F i).a.m,.string (F i).a.x,.slice pn (F i).p cn,.slice pk (F i).q ck] 64 (0,0)):=by rw [hA',hk];exact World.alloc_heap_new _ _
  have hOA:Ot w o (.slice (some cd) n cf) pre v A:=hO.on (.of_below (by rw [hA'];exact bel1 _ _))
  have HS:Hid (∀ W',Below A.heap.size A W'→W'.cell? ⟨o,1,none⟩=some v∧W'.cell? ⟨W.heap.size,3,none⟩=some (.int .i64 (F i).a.l)):=(fun W' hb=>by
    refine ⟨?_,?_⟩
    · have h1:=(hb.block o (by omega)).trans hOA.ob
      simp [World.cell?,h1]
    · have h1:=(hb.block W.heap.size (by omega)).trans hAt
      simp [World.cell?,h1]:∀ W',Below A.heap.size A W'→W'.cell? ⟨o,1,none⟩=some v∧W'.cell? ⟨W.heap.size,3,none⟩=some (.int .i64 (F i).a.l))
  have hvl:some W.heap.size ≠ v.ownBlock:=fun e=>by have:=(hO.row.lt _ e.symm).2;omega
  have HADD : Hid (∀ (w4 : World), Below A.heap.size A w4 → ∀ (E : Obj) (g cap : Nat) (w7 : World), w7.ownsRow (o + 1) 84 4 (.slice (some ⟨g, 0, none⟩) (k + 1) cap) (k + 1) (pre.flatMap ec ++ [.string x, .int .i64 (F i).a.l, .int .i64 d, .int .i64 (i : Int)]) → (w4.alloc E).grownBy w7 v.ownBlock →
      w7.cell? ⟨o,1,none⟩=some v∧w7.cell? ⟨W.heap.size,3,none⟩=some (.int .i64 (F i).a.l)∧w7.frozen? ⟨o,1,none⟩=false∧Ot w o (.slice (some cd) n cf) (pre ++ hd (F i) i x d) (.slice (some ⟨g,0,none⟩) (k+1) cap) (w7.setCell ⟨o,1,none⟩ (.slice (some ⟨g,0,none⟩) (k+1) cap))∧(w7.setCell ⟨o,1,none⟩ (.slice (some ⟨g,0,none⟩) (k+1) cap)).heap[W.heap.size]? = some (.cells #[.int .i64 (F i).a.k,.int .i64 (F i).a.f,.int .i64 (F i).a.t,.int .i64 (F i).a.l,.int .i64 (F i).a.o,.int .i64 (F i).a.m,.string (F i).a.x,.slice pn (F i).p cn,.slice pk (F i).q ck] 64 (0,0))):=(fun w4 hb E g cap w7 ho hgr=>by
    subst hkp
    obtain ⟨q1,q2,q3,q4⟩:=Ot.add (e:=⟨x,(F i).a.l,d,i⟩) (hOA.on (.of_below hb)) ho hgr
    have q5:=(q3 W.heap.size (by have:=hb.size;omega) hvl).trans ((hb.block W.heap.size (by omega)).trans hAt)
    rw [hhd]
    exact ⟨q1,by simp [World.cell?,q5],q2,q4,(Below.heap_setCell w7 _ _ _ (by show W.heap.size ≠ o;omega)).trans q5⟩:∀ (w4:World),_)
  have HOWN:Hid (∀ W',Below A.heap.size A W'→∀ u:Obj,(W'.alloc u).ownsRow (o+1) 84 4 v k (pre.flatMap ec)):=(fun W' hb u=>by rw [hkp];exact (hOA.on (.of_below hb)).row.alloc u:∀ W',_)
  have HZ:Hid (o+1≤A.heap.size):=(by omega:o+1≤A.heap.size)
  obtain ⟨oA,s0⟩:=(show ∀ W',Below A.heap.size A W'→W'.cell? ⟨o,1,none⟩=some v∧W'.cell? ⟨W.heap.size,3,none⟩=some (.int .i64 (F i).a.l) from HS) A (Below.refl _ _)
  rw [hA'] at oA s0
  rw [hk] at e0
  clear hf2 hrc hn2 hk2 hK hq hn ih hcc hA hO HO hOA hAt hvl hos hi0 hle hkp
  go_enter Tryz.func48,Tryz.ntmps48
  go_wp2_with fail
  rw [← hA']
  rw [← hA'] at oA s0
  clear hA' e0 e1 e2 e3 e4 e5 e6 e7 e8 c0
  refine AnyL.region (S:=fun W'=>W'.cell? ⟨o,1,none⟩=some v∧W'.cell? ⟨W.heap.size,3,none⟩=some (.int .i64 (F i).a.l)) (z:=16) (by kernel_rfl) ?_
  have hS0:(fun W':World=>W'.cell? ⟨o,1,none⟩=some v∧W'.cell? ⟨W.heap.size,3,none⟩=some (.int .i64 (F i).a.l)) A.drew:=(⟨oA,s0⟩:_∧_)
  refine AnyL.takeAt 0 (.pointer (some ⟨o,0,none⟩)) rfl (by kernel_rfl) (by kernel_rfl) (by kernel_rfl) (by kernel_rfl) (fun _ _ _ h=>h) rfl hS0 (by intro W hW;go_simp) ?_
  simp only [Act.put,List.setIfInBounds_toArray,List.set_cons_zero,List.set_cons_succ]
  refine AnyL.takeAt 1 (.pointer (some ⟨o,0,none⟩)) rfl (by kernel_rfl) (by kernel_rfl) (by kernel_rfl) (by kernel_rfl) (fun _ _ _ h=>h) rfl hS0 (by intro W hW;go_simp) ?_
  simp only [Act.put,List.setIfInBounds_toArray,List.set_cons_zero,List.set_cons_succ]
  refine AnyL.takeAt 2 (.pointer (some ⟨o,0,none⟩)) rfl (by kernel_rfl) (by kernel_rfl) (by kernel_rfl) (by kernel_rfl) (fun _ _ _ h=>h) rfl hS0 (by intro W hW;go_simp) ?_
  simp only [Act.put,List.setIfInBounds_toArray,List.set_cons_zero,List.set_cons_succ]
  refine AnyL.takeAt 3 (.pointer (some ⟨o,1,none⟩)) rfl (by kernel_rfl) (by kernel_rfl) (by kernel_rfl) (by kernel_rfl) (fun _ _ _ h=>h) rfl hS0 (by intro W hW;go_simp) ?_
  simp only [Act.put,List.setIfInBounds_toArray,List.set_cons_zero,List.set_cons_succ]
  refine AnyL.takeAt 4 (v) rfl (by kernel_rfl) (by kernel_rfl) (by kernel_rfl) (by kernel_rfl) (fun _ _ _ h=>h) rfl hS0 (by intro W hW;go_simp) ?_
  simp only [Act.put,List.setIfInBounds_toArray,List.set_cons_zero,List.set_cons_succ]
  refine AnyL.takeAt 5 (.string x) rfl (by kernel_rfl) (by kernel_rfl) (by kernel_rfl) (by kernel_rfl) (fun _ _ _ h=>h) rfl hS0 (by intro W hW;go_simp) ?_
  simp only [Act.put,List.setIfInBounds_toArray,List.set_cons_zero,List.set_cons_succ]
  refine AnyL.takeAt 7 (.pointer (some ⟨W.heap.size,3,none⟩)) rfl (by kernel_rfl) (by kernel_rfl) (by kernel_rfl) (by kernel_rfl) (fun _ _ _ h=>h) rfl hS0 (by intro W hW;go_simp) ?_
  simp only [Act.put,List.setIfInBounds_toArray,List.set_cons_zero,List.set_cons_succ]
  refine AnyL.takeAt 8 (.int .i64 (F i).a.l) rfl (by kernel_rfl) (by kernel_rfl) (by kernel_rfl) (by kernel_rfl) (fun _ _ _ h=>h) rfl hS0 (by intro W hW;go_simp) ?_
  simp only [Act.put,List.setIfInBounds_toArray,List.set_cons_zero,List.set_cons_succ]
  refine AnyL.takeAt 9 (.int .i64 d) rfl (by kernel_rfl) (by kernel_rfl) (by kernel_rfl) (by kernel_rfl) (fun _ _ _ h=>h) rfl hS0 (by intro W hW;go_simp) ?_
  simp only [Act.put,List.setIfInBounds_toArray,List.set_cons_zero,List.set_cons_succ]
  refine AnyL.takeAt 10 (.int .i64 (i:Int)) rfl (by kernel_rfl) (by kernel_rfl) (by kernel_rfl) (by kernel_rfl) (fun _ _ _ h=>h) rfl hS0 (by intro W hW;go_simp) ?_
  simp only [Act.put,List.setIfInBounds_toArray,List.set_cons_zero,List.set_cons_succ]
  refine AnyL.oneAt 6 rfl (by kernel_rfl) rfl ?_
  intro K hK
  go_simp
  refine (hcl _).mono ?_
  rintro e w4 ⟨rfl,hb4⟩
  have B4:Below A.heap.size A w4:=⟨hb4.os,hb4.tape,hb4.output,hb4.size,hb4.block⟩
  have s4:=(show ∀ W',Below A.heap.size A W'→W'.cell? ⟨o,1,none⟩=some v∧W'.cell? ⟨W.heap.size,3,none⟩=some (.int .i64 (F i).a.l) from HS) w4 B4
  clear hb4
  refine hK.out _ _ (fun _=>s4) ?_
  clear hK K hS0
  refine AnyL.takeAt 11 (.agg #[.string x,.int .i64 (F i).a.l,.int .i64 d,.int .i64 (i:Int)]) rfl (by kernel_rfl) (by kernel_rfl) (by kernel_rfl) (by kernel_rfl) (fun _ _ _ h=>h) rfl s4 (by intro W hW;go_simp) ?_
  simp only [Act.put,List.setIfInBounds_toArray,List.set_cons_zero,List.set_cons_succ]
  refine AnyL.oneAt 12 rfl (by kernel_rfl) rfl ?_
  intro K hK
  go_simp
  refine hK.out _ _ (fun _=>(show ∀ W',Below A.heap.size A W'→W'.cell? ⟨o,1,none⟩=some v∧W'.cell? ⟨W.heap.size,3,none⟩=some (.int .i64 (F i).a.l) from HS) _ (B4.alloc B4.size _)) ?_
  clear hK K
  refine AnyL.oneAt 13 rfl (by kernel_rfl) rfl ?_
  intro K hK
  refine wp_append_lies _ (.tmp 25) (.tmp 33) 42 rfl (o+1) 84 i0 (.agg #[.string ⟨#[]⟩,.int .i64 0,.int .i64 0,.int .i64 0]) 4 40 Tryz.underlying42 HI0 hz0 hz1 hz2 rfl (by decide) v k (pre.flatMap ec) rfl ((show ∀ W',Below A.heap.size A W'→∀ u:Obj,(W'.alloc u).ownsRow (o+1) 84 4 v k (pre.flatMap ec) from HOWN) w4 B4 _) ⟨w4.heap.size,0,none⟩ 1 1 [.string x,.int .i64 (F i).a.l,.int .i64 d,.int .i64 (i:Int)] rfl rfl (qr_cells w4 _ 84 _ rfl) h1c (by decide) (by unfold maxLen;omega) (by omega) (by have h1:=B4.size;have h2:=(show o+1≤A.heap.size from HZ);simp;omega) (w4.heap.size+1) (by simp) ?_
  intro g cap w7 hown hgrow hat hlt
  obtain ⟨s7,o7,f7,hfin,hfm⟩:=(show ∀ (w4:World),_ from HADD) w4 B4 _ g cap w7 hown hgrow
  have HN:Hid (Ot w o (.slice (some cd) n cf) (pre ++ hd (F i) i x d) (.slice (some ⟨g,0,none⟩) (k+1) cap) (w7.setCell ⟨o,1,none⟩ (.slice (some ⟨g,0,none⟩) (k+1) cap))):=hfin
  have d0:(w7.setCell ⟨o,1,none⟩ (.slice (some ⟨g,0,none⟩) (k+1) cap)).cell? ⟨W.heap.size,0,none⟩=some (.int .i64 (F i).a.k):=by simp [World.cell?,hfm]
  have d8:(w7.setCell ⟨o,1,none⟩ (.slice (some ⟨g,0,none⟩) (k+1) cap)).cell? ⟨W.heap.size,8,none⟩=some (.slice pk (F i).q ck):=by simp [World.cell?,hfm]
  rw [hk] at d0
  refine hK.out _ _ (fun _=>⟨s7,o7⟩) ?_
  clear hK K s4 hfin hown hgrow hat hlt hfm
  simp only [Act.put,List.setIfInBounds_toArray,List.set_cons_zero,List.set_cons_succ]
  refine AnyL.oneAt 14 rfl (by kernel_rfl) rfl ?_
  intro K hK
  go_simp
  refine hK.out _ _ (fun _=>⟨s7,o7⟩) ?_
  clear hK K
  refine AnyL.takeAt 15 (.pointer (some ⟨o,1,none⟩)) rfl (by kernel_rfl) (by kernel_rfl) (by kernel_rfl) (by kernel_rfl) (fun _ _ _ h=>h) rfl ⟨s7,o7⟩ (by intro W hW;go_simp) ?_
  simp only [Act.put,List.setIfInBounds_toArray,List.set_cons_zero,List.set_cons_succ]
  refine AnyL.oneAt 16 rfl (by kernel_rfl) rfl ?_
  intro K hK
  go_simp
  refine hK.out _ _ (fun h=>absurd rfl h) ?_
  clear hK K
  refine AnyL.done (by kernel_rfl) ?_
  clear HADD HOWN HS HZ h1c HI0 hz0 hz1 hz2 B4 s7 o7 f7 oA s0 hAz hcl
  obtain ⟨w8,hw8⟩:∃ w8,w8=w7.setCell ⟨o,1,none⟩ (.slice (some ⟨g,0,none⟩) (k+1) cap):=⟨_,rfl⟩
  rw [← hw8] at HN d0 d8 ⊢
  clear hw8
  go_wp2_with fail
  clear d0 d8
  go_loopw [49] (fun s49 wr=>∃ (j:Nat) (vj:Value),s49 = .int .i64 (j:Int)∧j≤(F i).q∧Hid (Ot w o (.slice (some cd) n cf) (pre ++ hd (F i) i x d ++ olk (fun k=>ol F b k (hnm (F i)) (hdp (F i) d)) (F i).K j) vj wr)) (fun s49 _=>(F i).q - (intOf s49).toNat)
  case atStart=>exact ⟨0,_,rfl,Nat.zero_le _,by simpa [olk] using HN⟩
  case round =>
    clear HN
    obtain ⟨j,vj,rfl,hjq,HG⟩:=hrel
    rcases Nat.lt_or_ge j (F i).q with hj | hj
    case inr =>
      have hjI:¬ (j:Int) < ((F i).q:Int):=by omega
      have HX:Hid (∃ v',Ot w o (.slice (some cd) n cf) (pre ++ ol F (b+1) i x d) v' wr):=by
        have ej:j=(F i).q:=by omega
        rw [ej,List.append_assoc] at HG
        exact (⟨vj,HG⟩:∃ v',Ot w o (.slice (some cd) n cf) (pre ++ ol F (b+1) i x d) v' wr)
      clear HG HRF HIH HLE HKN HK2 HDB
      go_wp2_with fail
      exact ⟨rfl,.tuple #[],by simp [results,Tryz.results48],rfl,HX⟩
    have hjI:(j:Int) < ((F i).q:Int):=by omega
    have hg:=(show Ot w o (.slice (some cd) n cf) (pre ++ hd (F i) i x d ++ olk (fun k=>ol F b k (hnm (F i)) (hdp (F i) d)) (F i).K j) vj wr from HG)
    obtain ⟨ak,rfl,hck,hkr⟩:=(show 0 < (F i).q→∃ a:Addr,pk=some a∧(F i).q≤ck∧∀ j,j < (F i).q→w.cell? (a.add j)=some (.int .i64 ((F i).K j)) from HK2) (by omega)
    obtain ⟨hK,hin',hib⟩:=(show Kn F n∧i < n∧i < b+1 from HKN)
    have hk0:=hK i hin' j hj
    obtain ⟨kn,hkn⟩:∃ kn:Nat,(F i).K j=(kn:Int):=⟨((F i).K j).toNat,by omega⟩
    have qa:=(hg.kz.cell (lt_of_cell' (hkr j hj))).trans (hkr j hj)
    rw [hkn] at qa hk0
    obtain ⟨hdb',hxb⟩:=(show d+((b+1:Nat):Int)≤6000∧(ByteArray.empty).size≤140737488355328 from HDB)
    have hpre:pre ++ hd (F i) i x d ++ olk (fun k=>ol F b k (hnm (F i)) (hdp (F i) d)) (F i).K (j+1)=(pre ++ hd (F i) i x d ++ olk (fun k=>ol F b k (hnm (F i)) (hdp (F i) d)) (F i).K j) ++ ol F b kn (hnm (F i)) (hdp (F i) d):=by
      rw [List.append_assoc (pre ++ hd (F i) i x d)]
      show _ ++ (olk _ _ j ++ ol F b ((F i).K j).toNat _ _) = _
      rw [hkn,Int.toNat_natCast]
    have hlen:(pre ++ hd (F i) i x d ++ olk (fun k=>ol F b k (hnm (F i)) (hdp (F i) d)) (F i).K j).length+(ol F b kn (hnm (F i)) (hdp (F i) d)).length≤3000:=by
      have hl1:=olk_mono (fun k=>ol F b k (hnm (F i)) (hdp (F i) d)) (F i).K (j+1) (F i).q (by omega)
      have hl2:pre.length+(hd (F i) i x d ++ olk (fun k=>ol F b k (hnm (F i)) (hdp (F i) d)) (F i).K (F i).q).length≤3000:=HLE
      have hl3:=congrArg List.length hpre
      simp only [List.length_append] at hl1 hl2 hl3 ⊢
      omega
    have hcall:=(show WkC F n b from HIH) w o cf cd _ vj wr kn (hnm (F i)) (hdp (F i) d) (by omega) (by omega) (by have:=hdp_in (F i) d;omega) (by have:=hdp_in (F i) d;omega) (by rw [hnm1];exact hxb) HRF hg hlen
    rw [← hpre,hnm1,hdp1] at hcall
    clear hg hpre hlen hK hkr hkn hdb' hxb HG
    go_wp2_with fail
    refine hcall.mono ?_
    rintro e w1 ⟨rfl,v',h1⟩
    have HX:Hid (Ot w o (.slice (some cd) n cf) (pre ++ hd (F i) i x d ++ olk (fun k=>ol F b k (hnm (F i)) (hdp (F i) d)) (F i).K (j+1)) v' w1):=by
      rw [hnm1,hdp1]
      exact h1
    clear h1 hcall qa
    go_wp2_with fail
    go_roundw
    case rel=>exact ⟨j+1,v',by go_num,by omega,HX⟩
    case measure=>simp [intOf];omega
theorem im_ol {F:Nat→Gv} {n:Nat} (hK:Kn F n) (hn:n≤3000) (hA:∀ i,i < n→∀ j,j < (F i).p→((F i).A j).size≤140737488355328) (hnd:∀ j,j < n→ndk nmp flp F j):∀ b,WkC F n b:=by
  intro b
  induction b with
  | zero=>intro w o cf cd pre v W i x d hi;omega
  | succ b ih =>
    intro w o cf cd pre v W i x d hi hin hd0 hdb hx hf hO hle
    have hq:∀ i,i < n→(F i).q≤200:=fun i hi=>ndk_q (hnd i hi)
    by_cases hk:(F i).a.k=36
    · exact im_ol_36 hK hn hq hA ih w o cf cd pre v W i x d hi hin hd0 hdb hx hf hO hle hk
    · by_cases hk4:(F i).a.k=4
      · exact im_ol_4 hK hn hq hA ih w o cf cd pre v W i x d hi hin hd0 hdb hx hf hO hle hk4 (ndk_p4 (hnd i hin) hk4)
      · exact im_ol_0 hK hn hq hA ih w o cf cd pre v W i x d hi hin hd0 hdb hx hf hO hle hk hk4
theorem im_outline {v : Value} {n : Nat} {F : Nat → Gv} {P : List En} (w : World) (hg : Gd w) (hf : RowF w v n F) (hn : n ≤ 1048576) (hp : ∀ i, i < n → (F i).p ≤ 1048576) (hq : ∀ i, i < n → (F i).q ≤ 1048576) (hm : ∀ i, i < n → -9223372036854775808 ≤ (F i).a.m ∧ (F i).a.m ≤ 9223372036854775807) (hA : ∀ i, i < n → ∀ j, j < (F i).p → ((F i).A j).size ≤ 140737488355328) (hP : Of F n P) :
    Calls Tryz.prog 21 #[.agg #[v]] w fun e w'=>∃ u,e = .returned u∧w'.ownsRow w.heap.size 84 4 u P.length (P.flatMap ec)∧Kz w w':=by
  have HSO:Hid (∀ a:Obj,Calls Tryz.prog 43 #[.agg #[v]] (w.alloc a) fun e w'=>(∃ c f,e = .returned (.bool (dc (c=0)))∧Fl nmp flp F n c f)∧Kz (w.alloc a) w'):=(fun a=>im_sound _ ((Kz.of_below (bel1 w a)).gd hg) (hf.kz (.of_below (bel1 _ _))) hn hp hq hm:∀ a:Obj,_)
  have HRF:Hid (RowF w v n F∧Of F n P∧∀ i,i < n→∀ j,j < (F i).p→((F i).A j).size≤140737488355328):=(⟨hf,hP,hA⟩:_∧_∧_)
  obtain ⟨pf,cf,rfl,_⟩:=hf
  clear hn hp hq hP hg hm hA
  go_enter Tryz.func21,Tryz.ntmps21
  go_wp2_with fail
  refine ((show ∀ a:Obj,_ from HSO) _).mono ?_
  rintro e w1 ⟨⟨c,f,rfl,hfl⟩,k1⟩
  have B1:Kz w w1:=(Kz.of_below (bel1 w _)).trans k1
  have c1:w1.cell? ⟨w.heap.size,0,none⟩=some (.slice pf n cf):=(k1.cell (p:=⟨w.heap.size,0,none⟩) (by show w.heap.size < _;simp)).trans (cell_new1 w _ _)
  obtain ⟨hf,hP,hA⟩:=(show RowF w (.slice pf n cf) n F∧Of F n P∧∀ i,i < n→∀ j,j < (F i).p→((F i).A j).size≤140737488355328 from HRF)
  clear HSO HRF k1
  by_cases h0:c=0
  case neg =>
    rw [dc_f h0]
    have hPe:P = []:=by
      rcases hP with ⟨_,_,_,_,e⟩ | ⟨f',a',_⟩
      · exact e
      · exact absurd (Fl.uniq hfl a').1 h0
    subst hPe
    have HB1:Hid (Kz w w1):=B1
    clear hf hP hfl h0 c1 B1 hA
    go_wp2_with fail
    go_ret
    exact ⟨_,rfl,World.ownsRow_nil _ _ _ _,HB1⟩
  rw [dc_t h0]
  subst h0
  obtain ⟨hn0,hn3,hK,hz,hnd⟩:=fl_sound2 hfl
  have hPe:P=ol F n (n - 1) ByteArray.empty 0:=by
    rcases hP with ⟨c',f',a',b',_⟩ | ⟨f',a',b'⟩
    · exact absurd (Fl.uniq hfl a').1.symm b'
    · exact b'
  obtain ⟨cd,rfl,_,_⟩:∃ cd,pf=some cd∧n≤cf∧∀ i,i < n→FormC w (cd.add (i*9)) (F i):=by
    obtain ⟨pf',cf',e1,e2⟩:=hf
    simp only [Value.slice.injEq] at e1
    obtain ⟨rfl,_,rfl⟩:=e1
    exact e2 hn0
  have hO:Ot w w1.heap.size (.slice (some cd) n cf) [] (.slice none 0 0) (w1.alloc (.cells #[.slice (some cd) n cf,.slice none 0 0] 80)) :=
    ⟨B1.trans (.of_below (bel1 _ _)),B1.size,World.alloc_heap_new _ _,World.ownsRow_nil _ _ _ _⟩
  have hcall:Calls Tryz.prog 48 #[.pointer (some ⟨w1.heap.size,0,none⟩),.int .i64 ((n:Int) - 1),.string ByteArray.empty,.int .i64 0] (w1.alloc (.cells #[.slice (some cd) n cf,.slice none 0 0] 80)) fun e w'=>e = .returned (.tuple #[])∧∃ v',Ot w w1.heap.size (.slice (some cd) n cf) P v' w':=by
    have hl:=ol_le hK hz n (n - 1) ByteArray.empty 0 (by omega)
    have:=im_ol hK hn3 hA hnd n w w1.heap.size cf cd [] _ _ (n - 1) ByteArray.empty 0 (by omega) (by omega) (by omega) (by omega) (by decide) hf hO (by simp;omega)
    rw [show ((n - 1:Nat):Int)=(n:Int) - 1 by omega,List.nil_append,← hPe] at this
    exact this
  have hnI:(n:Int)≤3000:=by omega
  have hnI0 : 0 < (n:Int):=by omega
  have hb1:w.heap.size≤w1.heap.size:=B1.size
  have c2:∀ o:Obj,(w1.alloc o).cell? ⟨w.heap.size,0,none⟩=some (.slice (some cd) n cf):=fun o=>((bel1 w1 o).cell (p:=⟨w.heap.size,0,none⟩) (lt_of_cell c1)).trans c1
  clear hf hP hfl hK hz hnd hPe B1 hA hO
  go_wp2_with fail
  refine hcall.mono ?_
  rintro e w2 ⟨rfl,u,ho⟩
  obtain ⟨ad,cap,rfl⟩:=ho.shape
  have d1:w2.cell? ⟨w1.heap.size,1,none⟩=some (.slice ad P.length cap):=by simp [World.cell?,ho.ob]
  have o2:w2.ownsRow w.heap.size 84 4 (.slice ad P.length cap) P.length (P.flatMap ec):=ownsRow_mono' ho.row (by omega)
  have HX:Hid (w2.ownsRow w.heap.size 84 4 (.slice ad P.length cap) P.length (P.flatMap ec)∧Kz w w2):=(⟨o2,ho.kz⟩:_∧_)
  clear hcall c2 c1 ho o2
  go_wp2_with fail
  go_ret
  exact ⟨_,rfl,HX.1,HX.2⟩
structure Ev where
  x:ByteArray
  l:Int
  d:Int
  i:Int
structure Ce4 (W:World) (g o:Nat) (a:Ev):Prop where
  c0:W.cell? ⟨g,o,none⟩=some (.string a.x)
  c1:W.cell? ⟨g,o+1,none⟩=some (.int .i64 a.l)
  c2:W.cell? ⟨g,o+2,none⟩=some (.int .i64 a.d)
  c3:W.cell? ⟨g,o+3,none⟩=some (.int .i64 a.i)
structure OwnE (W:World) (v:Value) (g n:Nat) (A:Nat→Ev):Prop where
  sl:∃ pa cap,v = .slice pa n cap∧(0 < n→pa=some ⟨g,0,none⟩∧n≤cap)
  ce:∀ i,i < n→Ce4 W g (i*4) (A i)
  fz : 0 < n→∀ j,W.frozen? ⟨g,j,none⟩=false
theorem Ce4.block {W W':World} {g o:Nat} {a:Ev} (h:Ce4 W g o a) (hb:W'.heap[g]? = W.heap[g]?):Ce4 W' g o a:=by
  have e:∀ j,W'.cell? ⟨g,j,none⟩=W.cell? ⟨g,j,none⟩:=fun j=>World.cell?_of_block hb
  exact ⟨by rw [e];exact h.c0,by rw [e];exact h.c1,by rw [e];exact h.c2,by rw [e];exact h.c3⟩
theorem Ce4.lt {W:World} {g o:Nat} {a:Ev} (h:Ce4 W g o a):g < W.heap.size:=lt_of_cell h.c0
theorem OwnE.block {W W':World} {v:Value} {g n:Nat} {A:Nat→Ev} (h:OwnE W v g n A) (hb : 0 < n→W'.heap[g]? = W.heap[g]?):OwnE W' v g n A :=
  ⟨h.sl,fun i hi=>(h.ce i hi).block (hb (by omega)),fun hn j=>by rw [← h.fz hn j];unfold World.frozen?;rw [hb hn]⟩
theorem OwnE.lt {W:World} {v:Value} {g n:Nat} {A:Nat→Ev} (h:OwnE W v g n A) (hn : 0 < n):g < W.heap.size:=(h.ce 0 hn).lt
def eva (P:List En) (i:Nat):Ev:=match P[i]? with
  | some e=>⟨e.x,e.l,e.d,(e.i:Int)⟩
  | none=>⟨ByteArray.empty,0,0,0⟩
theorem own_ents {W:World} {base:Nat} {v:Value} {P:List En} (h:W.ownsRow base 84 4 v P.length (P.flatMap ec)):∃ g,OwnE W v g P.length (eva P)∧(0 < P.length→base≤g∧g < W.heap.size):=by
  rcases Nat.eq_zero_or_pos P.length with h0 | h0
  · refine ⟨0,⟨?_,fun i hi=>by omega,fun hn=>by omega⟩,fun hn=>by omega⟩
    rcases h.2 with ⟨e1,e2⟩ | ⟨g,cap,cur,e1,_⟩
    · exact ⟨none,0,by rw [e1,h0],fun hn=>by omega⟩
    · exact ⟨_,cap,e1,fun hn=>by omega⟩
  · obtain ⟨g,cap,rfl,hcap,_⟩:=h.form h0
    have hc:P.length≤cap:=by
      rcases h.2 with ⟨e1,e2⟩ | ⟨g',cap',cur,e1,_,_,e4,_⟩
      · omega
      · simp only [Value.slice.injEq] at e1
        obtain ⟨_,_,rfl⟩:=e1
        exact e4
    refine ⟨g,⟨⟨_,cap,rfl,fun _=>⟨rfl,hc⟩⟩,fun i hi=>?_,fun _ j=>h.frozenAt j⟩,fun _=>h.lt g rfl⟩
    obtain ⟨e,he⟩:∃ e,P[i]? = some e:=⟨_,List.getElem?_eq_getElem hi⟩
    have r:∀ t,t < 4→W.cell? ⟨g,i*4+t,none⟩=(ec e)[t]?:=fun t ht=>(h.cellAt (i*4+t) (by omega)).trans (ec_at he t ht)
    have q:eva P i=⟨e.x,e.l,e.d,(e.i:Int)⟩:=by unfold eva;rw [he]
    rw [q]
    exact ⟨r 0 (by omega),r 1 (by omega),r 2 (by omega),r 3 (by omega)⟩
theorem eq_ent (x:ByteArray) (l d i:Int) (w:World):Calls Tryz.prog 49 #[.agg #[.string x,.int .i64 l,.int .i64 d,.int .i64 i],.agg #[.string x,.int .i64 l,.int .i64 d,.int .i64 i]] w fun e w'=>e = .returned (.bool true)∧Below w.heap.size w w':=by
  go_enter Tryz.func49,Tryz.ntmps49
  go_wp2_with fail
  go_ret
  exact ⟨rfl,bel2 w _ _⟩
theorem eq_ents {va vb : Value} {ga gb n : Nat} {A : Nat → Ev} (w : World) (ha : OwnE w va ga n A) (hb : OwnE w vb gb n A) (hn : n ≤ 1048576) :
    Calls Tryz.prog 22 #[va,vb] w fun e w'=>e = .returned (.bool true)∧Kz w w':=by
  obtain ⟨pa,ca,rfl,ha2⟩:=ha.sl
  obtain ⟨pb,cb,rfl,hb2⟩:=hb.sl
  have HA:Hid ((0 < n→pa=some ⟨ga,0,none⟩∧n≤ca)∧(0 < n→pb=some ⟨gb,0,none⟩∧n≤cb)):=(⟨ha2,hb2⟩:_∧_)
  have HR:Hid ((∀ i,i < n→Ce4 w ga (i*4) (A i))∧(∀ i,i < n→Ce4 w gb (i*4) (A i))):=(⟨ha.ce,hb.ce⟩:_∧_)
  have hnI:(n:Int)≤1048576:=by omega
  clear ha2 hb2 hn ha hb
  go_enter Tryz.func22,Tryz.ntmps22
  go_wp2_with fail
  go_loopw [5] (fun s5 wr=>∃ i:Nat,s5 = .int .i64 (i:Int)∧i≤n∧Hid (Kz w wr)) (fun s5 _=>n - (intOf s5).toNat)
  case atStart=>exact ⟨0,rfl,Nat.zero_le _,Kz.refl _⟩
  case round =>
    obtain ⟨i,rfl,hin,HB⟩:=hrel
    rcases Nat.lt_or_ge i n with hi | hi
    · obtain ⟨⟨rfl,hca⟩,⟨rfl,hcb⟩⟩:(pa=some ⟨ga,0,none⟩∧n≤ca)∧(pb=some ⟨gb,0,none⟩∧n≤cb):=⟨HA.1 (by omega),HA.2 (by omega)⟩
      have hiI:(i:Int) < (n:Int):=by omega
      have ra:=(show (∀ i,i < n→Ce4 w ga (i*4) (A i))∧(∀ i,i < n→Ce4 w gb (i*4) (A i)) from HR).1 i hi
      have rb:=(show (∀ i,i < n→Ce4 w ga (i*4) (A i))∧(∀ i,i < n→Ce4 w gb (i*4) (A i)) from HR).2 i hi
      have qa:=ra.block ((show Kz w wr from HB).block _ ra.lt)
      have qb:=rb.block ((show Kz w wr from HB).block _ rb.lt)
      have a0:=qa.c0
      have a1:=qa.c1
      have a2:=qa.c2
      have a3:=qa.c3
      have b0:=qb.c0
      have b1:=qb.c1
      have b2:=qb.c2
      have b3:=qb.c3
      have heq:=fun W=>eq_ent (A i).x (A i).l (A i).d (A i).i W
      have hla:=qa.lt
      have hlb:=qb.lt
      clear qa qb ra rb HA HR hin
      generalize (A i).x=xx at *
      generalize (A i).l=xl at *
      generalize (A i).d=xd at *
      generalize (A i).i=xi at *
      have HKEEP:Hid (∀ (W0 W':World),Below W0.heap.size W0 W'→W0.heap=wr.heap→(W'.cell? ⟨ga,i*4,none⟩=some (.string xx)∧W'.cell? ⟨ga,i*4+1,none⟩=some (.int .i64 xl)∧W'.cell? ⟨ga,i*4+2,none⟩=some (.int .i64 xd)∧W'.cell? ⟨ga,i*4+3,none⟩=some (.int .i64 xi)∧W'.cell? ⟨gb,i*4,none⟩=some (.string xx)∧W'.cell? ⟨gb,i*4+1,none⟩=some (.int .i64 xl)∧W'.cell? ⟨gb,i*4+2,none⟩=some (.int .i64 xd)∧W'.cell? ⟨gb,i*4+3,none⟩=some (.int .i64 xi))):=by
        show ∀ (W0 W':World),_
        intro W0 W' hb he
        have ea:∀ j,W'.cell? ⟨ga,j,none⟩=wr.cell? ⟨ga,j,none⟩:=fun j=>World.cell?_of_block (by rw [hb.block ga (by rw [he];exact hla),he])
        have eb:∀ j,W'.cell? ⟨gb,j,none⟩=wr.cell? ⟨gb,j,none⟩:=fun j=>World.cell?_of_block (by rw [hb.block gb (by rw [he];exact hlb),he])
        simp only [ea,eb]
        exact ⟨a0,a1,a2,a3,b0,b1,b2,b3⟩
      clear hla hlb
      go_wp2_with fail
      go_region_held_law (fun W'=>W'.cell? ⟨ga,i*4,none⟩=some (.string xx)∧W'.cell? ⟨ga,i*4+1,none⟩=some (.int .i64 xl)∧W'.cell? ⟨ga,i*4+2,none⟩=some (.int .i64 xd)∧W'.cell? ⟨ga,i*4+3,none⟩=some (.int .i64 xi)∧W'.cell? ⟨gb,i*4,none⟩=some (.string xx)∧W'.cell? ⟨gb,i*4+1,none⟩=some (.int .i64 xl)∧W'.cell? ⟨gb,i*4+2,none⟩=some (.int .i64 xd)∧W'.cell? ⟨gb,i*4+3,none⟩=some (.int .i64 xi)) (first | exact ⟨a0,a1,a2,a3,b0,b1,b2,b3⟩ | exact (show ∀ (W0 W':World),_ from HKEEP) _ _ hb5 rfl) ((go_at_call 49;refine (heq _).mono ?_;rintro e w5 ⟨rfl,hb5⟩))
      all_goals
        have HB5:Hid (Kz w w5):=(show Kz w wr from HB).trans ⟨hb5.os,hb5.output,hb5.size,hb5.block⟩
        clear HB HKEEP hb5 a0 a1 a2 a3 b0 b1 b2 b3
        go_wp2_with fail
        go_roundw
        case rel=>exact ⟨i+1,by go_num,by omega,HB5⟩
        case measure=>simp [intOf];omega
    · obtain rfl:i=n:=by omega
      clear HA HR
      go_wp2_with fail
      go_ret
      exact ⟨rfl,HB⟩
theorem cset_ne (W:World) (g o o':Nat) (v:Value) (h:o' ≠ o):(W.setCell ⟨g,o,none⟩ v).cell? ⟨g,o',none⟩=W.cell? ⟨g,o',none⟩ :=
  World.cell?_setCell_other _ _ _ _ (fun e=>h (congrArg Addr.off e).symm)
theorem cset_eq (W:World) (g o:Nat) (v u:Value) (h:W.cell? ⟨g,o,none⟩=some u):(W.setCell ⟨g,o,none⟩ v).cell? ⟨g,o,none⟩=some v :=
  World.cell?_setCell_same _ _ _ h
def mkE (i:Nat):Ev:=⟨mtx (4*i+1),1+4*(i:Int)+1,1+4*(i:Int)+1+1,1+4*(i:Int)+1+1+1⟩
def s4 (W:World) (g o:Nat) (X:ByteArray) (k:Int):World:=(((W.setCell ⟨g,o,none⟩ (.string X)).setCell ⟨g,o+1,none⟩ (.int .i64 (k+1))).setCell ⟨g,o+2,none⟩ (.int .i64 (k+1+1))).setCell ⟨g,o+3,none⟩ (.int .i64 (k+1+1+1))
theorem s4_ne (W:World) (g o:Nat) (X:ByteArray) (k:Int) (o':Nat) (h:o' < o∨o+3 < o'):(s4 W g o X k).cell? ⟨g,o',none⟩=W.cell? ⟨g,o',none⟩:=by
  unfold s4
  rw [cset_ne _ _ _ _ _ (by omega),cset_ne _ _ _ _ _ (by omega),cset_ne _ _ _ _ _ (by omega),cset_ne _ _ _ _ _ (by omega)]
theorem s4_in {W:World} {g o:Nat} {a:Ev} (h:Ce4 W g o a) (X:ByteArray) (k:Int):Ce4 (s4 W g o X k) g o ⟨X,k+1,k+1+1,k+1+1+1⟩:=by
  unfold s4
  refine ⟨?_,?_,?_,?_⟩
  · rw [cset_ne _ _ _ _ _ (by omega),cset_ne _ _ _ _ _ (by omega),cset_ne _ _ _ _ _ (by omega)]
    exact cset_eq _ _ _ _ _ h.c0
  · rw [cset_ne _ _ _ _ _ (by omega),cset_ne _ _ _ _ _ (by omega)]
    exact cset_eq _ _ _ _ _ (by rw [cset_ne _ _ _ _ _ (by omega)];exact h.c1)
  · rw [cset_ne _ _ _ _ _ (by omega)]
    exact cset_eq _ _ _ _ _ (by rw [cset_ne _ _ _ _ _ (by omega),cset_ne _ _ _ _ _ (by omega)];exact h.c2)
  · exact cset_eq _ _ _ _ _ (by rw [cset_ne _ _ _ _ _ (by omega),cset_ne _ _ _ _ _ (by omega),cset_ne _ _ _ _ _ (by omega)];exact h.c3)
theorem s4_fz {W:World} {g:Nat} (h:∀ j,W.frozen? ⟨g,j,none⟩=false) (o:Nat) (X:ByteArray) (k:Int) (j:Nat):(s4 W g o X k).frozen? ⟨g,j,none⟩=false:=by
  unfold s4
  simp [h j]
theorem s4_ky (W:World) (g o:Nat) (X:ByteArray) (k:Int):Ky (fun j=>j=g) W (s4 W g o X k):=by
  unfold s4
  refine ⟨rfl,rfl,by simp,fun j _ hj=>?_⟩
  rw [Below.heap_setCell _ _ _ _ hj,Below.heap_setCell _ _ _ _ hj,Below.heap_setCell _ _ _ _ hj,Below.heap_setCell _ _ _ _ hj]
structure MkE (w:World) (g n:Nat) (A:Nat→Ev) (i:Nat) (W:World):Prop where
  ky:Ky (fun j=>j=g) w W
  don:∀ i',i' < i→Ce4 W g (i'*4) (mkE i')
  rest:∀ i',i≤i'→i' < n→Ce4 W g (i'*4) (A i')
  fz:∀ j,W.frozen? ⟨g,j,none⟩=false
theorem MkE.step {w W w6 : World} {g n i : Nat} {A : Nat → Ev} (h : MkE w g n A i W) (hi : i < n) (k : Int) (hk : k = 1 + 4 * (i : Int)) (hb : Below W.heap.size W w6) :
    Ce4 w6 g (i*4) (A i)∧(∀ j,w6.frozen? ⟨g,j,none⟩=false)∧MkE w g n A (i+1) (s4 w6 g (i*4) (mtx (4*i+1)) k):=by
  have hlt:=(h.rest i (Nat.le_refl _) hi).lt
  have hB:=hb.block g hlt
  have hc:=(h.rest i (Nat.le_refl _) hi).block hB
  have f6:∀ j,w6.frozen? ⟨g,j,none⟩=false:=fun j=>by rw [World.frozen?_of_block hB];exact h.fz j
  have far:∀ {o:Nat} {a:Ev},(o+4≤i*4∨i*4+4≤o)→Ce4 W g o a→Ce4 (s4 w6 g (i*4) (mtx (4*i+1)) k) g o a:=by
    intro o a ho hca
    have hca:=hca.block hB
    refine ⟨?_,?_,?_,?_⟩
    · rw [s4_ne _ _ _ _ _ _ (by omega)];exact hca.c0
    · rw [s4_ne _ _ _ _ _ _ (by omega)];exact hca.c1
    · rw [s4_ne _ _ _ _ _ _ (by omega)];exact hca.c2
    · rw [s4_ne _ _ _ _ _ _ (by omega)];exact hca.c3
  refine ⟨hc,f6,⟨(h.ky.trans (Ky.of_kz (.of_below hb))).trans (s4_ky _ _ _ _ _),?_,?_,s4_fz f6 _ _ _⟩⟩
  · intro i' hi'
    by_cases e:i'=i
    · subst e
      subst hk
      exact s4_in hc _ _
    · exact far (by omega) (h.don i' (by omega))
  · intro i' h1 h2
    exact far (by omega) (h.rest i' (by omega) h2)
theorem mark_ents {v : Value} {g n : Nat} {A : Nat → Ev} (w : World) (ha : OwnE w v g n A) (hn : n ≤ 3000) :
    Calls Tryz.prog 23 #[v,.int .i64 1] w fun e w'=>e = .returned (.int .i64 (1+4*(n:Int)))∧Ky (fun j=>0 < n∧j=g) w w'∧OwnE w' v g n mkE:=by
  obtain ⟨pa,ca,rfl,ha2⟩:=ha.sl
  by_cases h0:n=0
  · subst h0
    clear ha
    go_enter Tryz.func23,Tryz.ntmps23
    go_wp2_with fail
    refine wp_loop_rounds 1 ?_
    rw [rounds_succ]
    go_wp2_with fail
    go_ret
    exact ⟨rfl,.of_kz (.refl _),⟨⟨pa,ca,rfl,ha2⟩,fun i hi=>by omega,fun hn=>by omega⟩⟩
  · obtain ⟨rfl,hca⟩:=ha2 (by omega)
    have HI0:Hid (MkE w g n A 0 w):=(⟨.of_kz (.refl _),fun i hi=>by omega,fun i _ hi=>ha.ce i hi,ha.fz (by omega)⟩:MkE w g n A 0 w)
    have hnI:(n:Int)≤3000:=by omega
    have HN0:Hid (0 < n):=(by omega : 0 < n)
    clear ha2 ha h0
    go_enter Tryz.func23,Tryz.ntmps23
    go_wp2_with fail
    go_loopw [1,5] (fun s1 s5 wr=>∃ i:Nat,s5 = .int .i64 (i:Int)∧s1 = .int .i64 (1+4*(i:Int))∧i≤n∧Hid (MkE w g n A i wr)) (fun _ s5 _=>n - (intOf s5).toNat)
    case atStart=>exact ⟨0,rfl,rfl,Nat.zero_le _,HI0⟩
    case round =>
      clear HI0
      obtain ⟨i,rfl,rfl,hin,HI⟩:=hrel
      have hI:=(show MkE w g n A i wr from HI)
      rcases Nat.lt_or_ge i n with hi | hi
      · have hiI:(i:Int) < (n:Int):=by omega
        obtain ⟨k,hk⟩:∃ k:Int,k=1+4*(i:Int):=⟨_,rfl⟩
        have HST:Hid (∀ w6,Below wr.heap.size wr w6→Ce4 w6 g (i*4) (A i)∧(∀ j,w6.frozen? ⟨g,j,none⟩=false)∧MkE w g n A (i+1) (s4 w6 g (i*4) (mtx (4*i+1)) k)):=(fun w6 hb=>hI.step hi k hk hb:∀ w6,_)
        have hmt:=fun W=>mark_tx (4*i+1) k (by omega) (by omega) (by omega) W
        obtain ⟨X,hX⟩:∃ X,mtx (4*i+1)=X:=⟨_,rfl⟩
        rw [hX] at hmt HST
        have hk0:(0:Int)≤k:=by omega
        have hk1:k≤400000:=by omega
        have HK:Hid (k=1+4*(i:Int)):=hk
        rw [← hk]
        clear hI HI hk hX hin
        go_wp2_with fail
        refine (hmt _).mono ?_
        rintro e w6 ⟨rfl,hb6⟩
        obtain ⟨hc,fz,hM⟩:=(show ∀ w6,Below wr.heap.size wr w6→Ce4 w6 g (i*4) (A i)∧(∀ j,w6.frozen? ⟨g,j,none⟩=false)∧MkE w g n A (i+1) (s4 w6 g (i*4) X k) from HST) w6 hb6
        have HM:Hid (MkE w g n A (i+1) (s4 w6 g (i*4) X k)):=hM
        have a0:=hc.c0
        have a1:=hc.c1
        have a2:=hc.c2
        have a3:=hc.c3
        clear hM HST hb6 hmt hc
        generalize (A i).x=xx at *
        generalize (A i).l=xl at *
        generalize (A i).d=xd at *
        generalize (A i).i=xi at *
        unfold s4 at HM
        go_wp2_with fail
        go_roundw
        case rel=>exact ⟨i+1,by go_num,by rw [show k=1+4*(i:Int) from HK];exact congrArg (Value.int .i64) (by omega),by omega,HM⟩
        case measure=>simp [intOf];omega
      · obtain rfl:i=n:=by omega
        have HE:Hid (MkE w g i A i wr):=hI
        clear HI hI
        go_wp2_with fail
        go_ret
        have hE:=(show MkE w g i A i wr from HE)
        exact ⟨rfl,⟨hE.ky.os,hE.ky.output,hE.ky.size,fun k hk hn=>hE.ky.block k hk (fun e=>hn ⟨HN0,e⟩)⟩,⟨⟨_,ca,rfl,fun _=>⟨rfl,hca⟩⟩,hE.don,fun _=>hE.fz⟩⟩
theorem held_ents {v : Value} {g n : Nat} (w : World) (ha : OwnE w v g n mkE) (hn : n ≤ 3000) :
    Calls Tryz.prog 24 #[v,.int .i64 1] w fun e w'=>e = .returned (.int .i64 (1+4*(n:Int)))∧Kz w w':=by
  obtain ⟨pa,ca,rfl,ha2⟩:=ha.sl
  by_cases h0:n=0
  · subst h0
    clear ha
    go_enter Tryz.func24,Tryz.ntmps24
    go_wp2_with fail
    refine wp_loop_rounds 1 ?_
    rw [rounds_succ]
    go_wp2_with fail
    go_ret
    exact ⟨rfl,Kz.refl _⟩
  · obtain ⟨rfl,hca⟩:=ha2 (by omega)
    have HR:Hid (∀ i,i < n→Ce4 w g (i*4) (mkE i)):=ha.ce
    have hnI:(n:Int)≤3000:=by omega
    clear ha2 ha h0
    go_enter Tryz.func24,Tryz.ntmps24
    go_wp2_with fail
    go_loopw [1,5] (fun s1 s5 wr=>∃ i:Nat,s5 = .int .i64 (i:Int)∧s1 = .int .i64 (1+4*(i:Int))∧i≤n∧Hid (Kz w wr)) (fun _ s5 _=>n - (intOf s5).toNat)
    case atStart=>exact ⟨0,rfl,rfl,Nat.zero_le _,Kz.refl _⟩
    case round =>
      obtain ⟨i,rfl,rfl,hin,HB⟩:=hrel
      rcases Nat.lt_or_ge i n with hi | hi
      · have hiI:(i:Int) < (n:Int):=by omega
        have ra:=(show ∀ i,i < n→Ce4 w g (i*4) (mkE i) from HR) i hi
        have hc:=ra.block ((show Kz w wr from HB).block _ ra.lt)
        have hla:=hc.lt
        obtain ⟨k,hk⟩:∃ k:Int,k=1+4*(i:Int):=⟨_,rfl⟩
        have hmt:=fun W=>mark_tx (4*i+1) k (by omega) (by omega) (by omega) W
        obtain ⟨X,hX⟩:∃ X,mtx (4*i+1)=X:=⟨_,rfl⟩
        rw [hX] at hmt
        have HC:Hid (∀ (W0 W':World),Below W0.heap.size W0 W'→W0.heap=wr.heap→(W'.cell? ⟨g,i*4,none⟩=some (.string X)∧W'.cell? ⟨g,i*4+1,none⟩=some (.int .i64 (k+1))∧W'.cell? ⟨g,i*4+2,none⟩=some (.int .i64 (k+1+1))∧W'.cell? ⟨g,i*4+3,none⟩=some (.int .i64 (k+1+1+1)))):=(fun W0 W' hb he=>by
          have h1:=hc.block (show W'.heap[g]? = wr.heap[g]? by rw [hb.block g (by rw [he];exact hla),he])
          refine ⟨?_,?_,?_,?_⟩
          · rw [← hX];exact h1.c0
          · rw [hk];exact h1.c1
          · rw [hk];exact h1.c2
          · rw [hk];exact h1.c3:∀ (W0 W':World),_)
        have a0:wr.cell? ⟨g,i*4,none⟩=some (.string X):=by rw [← hX];exact hc.c0
        have hk0:(0:Int)≤k:=by omega
        have hk1:k≤400000:=by omega
        have HK:Hid (k=1+4*(i:Int)):=hk
        rw [← hk]
        clear ra hc hk hX hin HR hla
        go_wp2_with fail
        go_region_held_law (fun W'=>W'.cell? ⟨g,i*4,none⟩=some (.string X)) (first | exact a0 | exact ((show ∀ (W0 W':World),_ from HC) _ _ hb5 rfl).1) ((go_at_call 50;refine (hmt _).mono ?_;rintro e w5 ⟨rfl,hb5⟩))
        all_goals
          obtain ⟨_,a1,a2,a3⟩:=(show ∀ (W0 W':World),Below W0.heap.size W0 W'→W0.heap=wr.heap→(W'.cell? ⟨g,i*4,none⟩=some (.string X)∧W'.cell? ⟨g,i*4+1,none⟩=some (.int .i64 (k+1))∧W'.cell? ⟨g,i*4+2,none⟩=some (.int .i64 (k+1+1))∧W'.cell? ⟨g,i*4+3,none⟩=some (.int .i64 (k+1+1+1))) from HC) _ _ hb5 rfl
          have HB5:Hid (Kz w w5):=(show Kz w wr from HB).trans ⟨hb5.os,hb5.output,hb5.size,hb5.block⟩
          clear HB HC hb5 a0 hmt
          go_wp2_with fail
          go_roundw
          case rel=>exact ⟨i+1,by go_num,by rw [show k=1+4*(i:Int) from HK];exact congrArg (Value.int .i64) (by omega),by omega,HB5⟩
          case measure=>simp [intOf];omega
      · obtain rfl:i=n:=by omega
        clear HR
        go_wp2_with fail
        go_ret
        exact ⟨rfl,HB⟩
end Go.Proofs.YtomcmnompajnlaaGreatDoor.Fo
