import Derived.Test.YtomcmnompajnlaaGreatDoorBSpl
import Derived.Test.YtomcmnompajnlaaGreatDoorBBab
import Derived.Test.YtomcmnompajnlaaGreatDoorBSpf
import Derived.Deep.AppendLies
import Derived.Test.YtomcmnompajnlaaGreatDoorBSpi
set_option maxRecDepth 100000
set_option maxHeartbeats 4000000
namespace Go.Proofs.YtomcmnompajnlaaGreatDoor.Fo
open Go.ChangeShapes Go.WideShapes Go.ChangeAt Go.RowKit
set_option linter.unusedVariables false
theorem infoIs:(Tryz.prog.info? 36).map (fun i=>(i.zero,i.size,i.bytes))=some (some (.slice none 0 0),1,24):=by kernel_rfl
def kcs (V:Nat→Value):Nat→List Value
  | 0=>[]
  | i+1=>kcs V i ++ [V i]
theorem kcs_len (V:Nat→Value) (i:Nat):(kcs V i).length=i:=by
  induction i with
  | zero=>rfl
  | succ i ih=>simp [kcs,ih]
theorem kcs_at (V:Nat→Value) (n i:Nat) (hi:i < n):(kcs V n)[i]? = some (V i):=by
  induction n with
  | zero=>omega
  | succ n ih =>
    show (kcs V n ++ _)[i]? = _
    rcases Nat.lt_or_ge i n with h | h
    · rw [List.getElem?_append_left (by rw [kcs_len];omega)];exact ih h
    · have e:i=n:=by omega
      subst e
      rw [List.getElem?_append_right (by rw [kcs_len];omega),kcs_len]
      simp
structure Kg (w:World) (V:Nat→Value) (i:Nat) (v:Value) (W:World):Prop where
  bl:Below w.heap.size w W
  row:W.ownsRow w.heap.size 36 1 v i (kcs V i)
theorem Kg.shape {w:World} {V:Nat→Value} {i:Nat} {v:Value} {W:World} (h:Kg w V i v W):∃ (ad:Option Addr) (cap:Nat),v = .slice ad i cap:=by
  rcases h.row.2 with ⟨rfl,e⟩ | ⟨g,cap,cur,rfl,_⟩
  · exact ⟨none,0,by rw [e]⟩
  · exact ⟨_,cap,rfl⟩
theorem Kg.step {w:World} {V:Nat→Value} {i:Nat} {v v':Value} {W W1 w2:World} (h:Kg w V i v W) (hb:Below W.heap.size W W1) (ho:w2.ownsRow w.heap.size 36 1 v' (i+1) (kcs V i ++ [V i])) (hg:W1.grownBy w2 v.ownBlock):Kg w V (i+1) v' w2:=by
  have h1:=h.bl.trans (hb.mono h.bl.size)
  have hs:=hg.size
  have hz:=h1.size
  have hne:∀ k,k < w.heap.size→some k ≠ v.ownBlock:=fun k hk e2=>by have:=(h.row.lt k e2.symm).1;omega
  exact ⟨⟨hg.os.trans h1.os,hg.tape.trans h1.tape,hg.output.trans h1.output,by omega,fun k hk=>(hg.block k (by omega) (hne k hk)).trans (h1.block k hk)⟩,ho⟩
theorem Kg.rows {w:World} {V:Nat→Value} {n:Nat} {v:Value} {W:World} (h:Kg w V n v W):RowV W v n V:=by
  rcases h.row.2 with ⟨rfl,e⟩ | ⟨g,cap,cur,rfl,hg,hcur,hc1,_,hsz,hx⟩
  · exact ⟨none,0,by rw [e],fun h=>by omega⟩
  · refine ⟨_,cap,rfl,fun _=>⟨_,rfl,hc1,fun i hi=>?_⟩⟩
    have ea:(⟨g,0,none⟩:Addr).add i=⟨g,i,none⟩:=by unfold Addr.add;split <;> simp_all
    rw [ea,← kcs_at V n i hi,← hx,List.getElem?_take_of_lt (by omega)]
    simp [World.cell?,hcur]
theorem im_kidrows {v : Value} {n : Nat} {F : Nat → Gv} (w : World) (hf : RowF w v n F) (hn : n ≤ 3000) :
    Calls Tryz.prog 41 #[v] w fun e w'=>∃ (u:Value) (PK:Nat→Option Addr) (CK:Nat→Nat),e = .returned u∧RowV w' u n (fun i=>.slice (PK i) (F i).q (CK i))∧(∀ i,i < n→RowV w' (.slice (PK i) (F i).q (CK i)) (F i).q (fun j=>.int .i64 ((F i).K j)))∧Kz w w':=by
  obtain ⟨PN,PK,CN,CK,hrx,hrk⟩:=hf.slots
  obtain ⟨pf,cf,rfl,hf2⟩:=hrx
  have hnI:(n:Int)≤3000:=by omega
  obtain ⟨V,hV⟩:∃ V:Nat→Value,V=fun i=>.slice (PK i) (F i).q (CK i):=⟨_,rfl⟩
  have HF:Hid (0 < n→∃ a:Addr,pf=some a∧n≤cf∧∀ i,i < n→Cel9 w (a.add (i*9)) (F i).a (.slice (PN i) (F i).p (CN i)) (.slice (PK i) (F i).q (CK i))):=hf2
  have HRK:Hid (∀ i,i < n→RowV w (.slice (PK i) (F i).q (CK i)) (F i).q (fun j=>.int .i64 ((F i).K j))):=hrk
  have HVV:Hid (V=fun i=>.slice (PK i) (F i).q (CK i)):=hV
  clear hf2 hrk hV hf
  obtain ⟨i0,hi0,hz0,hz1,hz2⟩:=info_parts infoIs
  have HI0:Hid (Tryz.prog.info? 36=some i0):=hi0
  clear hi0
  go_enter Tryz.func41,Tryz.ntmps41
  go_wp2_with fail
  go_loopw [3,8] (fun s3 s8 wr=>∃ i:Nat,s8 = .int .i64 (i:Int)∧i≤n∧Hid (Kg w V i s3 wr)) (fun _ s8 _=>n - (intOf s8).toNat)
  case atStart=>exact ⟨0,rfl,Nat.zero_le _,(⟨Below.refl _ _,World.ownsRow_nil _ _ _ _⟩:Kg w V 0 _ _)⟩
  case round =>
    obtain ⟨i,rfl,hin,HG⟩:=hrel
    have hg:=(show Kg w V i u3 wr from HG)
    obtain ⟨ad,cap,rfl⟩:=hg.shape
    clear HG
    rcases Nat.lt_or_ge i n with hi | hi
    case inr =>
      have hiI:¬ (i:Int) < (n:Int):=by omega
      have e:i=n:=by omega
      have HX:Hid (RowV wr (.slice ad i cap) n (fun i=>.slice (PK i) (F i).q (CK i))∧(∀ i,i < n→RowV wr (.slice (PK i) (F i).q (CK i)) (F i).q (fun j=>.int .i64 ((F i).K j)))∧Kz w wr):=by
        subst e
        have hv:=hg.rows
        rw [show V = _ from HVV] at hv
        exact (⟨hv,fun j hj=>((show ∀ i,_→RowV w _ _ _ from HRK) j hj).below hg.bl,Kz.of_below hg.bl⟩:_∧_∧_)
      clear hg e HI0 HRK HF HVV
      go_wp2_with fail
      go_ret
      exact ⟨_,rfl,PK,CK,HX.1,HX.2.1,HX.2.2⟩
    have hiI:(i:Int) < (n:Int):=by omega
    obtain ⟨c,rfl,hcc,hc⟩:=(show 0 < n→∃ a:Addr,pf=some a∧n≤cf∧∀ i,i < n→Cel9 w (a.add (i*9)) (F i).a (.slice (PN i) (F i).p (CN i)) (.slice (PK i) (F i).q (CK i)) from HF) (by omega)
    have hc9':=(hc i hi).below hg.bl
    have hVi:V i = .slice (PK i) (F i).q (CK i):=congrFun HVV i
    have HSTP:Hid (∀ (o1 o2:Obj) (v':Value) (w2:World),w2.ownsRow w.heap.size 36 1 v' (i+1) (kcs V i ++ [.slice (PK i) (F i).q (CK i)])→((wr.alloc o1).alloc o2).grownBy w2 (Value.slice ad i cap).ownBlock→Kg w V (i+1) v' w2):=(fun o1 o2 v' w2 ho hgr=>by
      rw [← hVi] at ho
      exact hg.step (bel2 _ _ _) ho hgr:∀ (o1 o2:Obj) (v':Value) (w2:World),_)
    have howna:∀ a b:Obj,((wr.alloc a).alloc b).ownsRow w.heap.size 36 1 (.slice ad i cap) i (kcs V i):=fun a b=>(hg.row.alloc a).alloc b
    obtain ⟨e0,e1,e2,e3,e4,e5,e6,e7,e8⟩:=hc9'
    have hqc:∀ (o:Obj) (j:Nat) (u:Value),([.slice (PK i) (F i).q (CK i)]:List Value)[j]? = some u→((wr.alloc o).alloc (.cells #[.slice (PK i) (F i).q (CK i)] 36)).cell? ((⟨wr.heap.size+1,0,none⟩:Addr).add j)=some u:=fun o=>by
      have:=qr_cells (wr.alloc o) #[.slice (PK i) (F i).q (CK i)] 36 [.slice (PK i) (F i).q (CK i)] rfl
      simpa using this
    have h1c:∀ u ∈ ([.slice (PK i) (F i).q (CK i)]:List Value),u.oneCell'=true:=by intro u hu;simp at hu;subst hu;rfl
    have hbs:w.heap.size≤wr.heap.size:=hg.bl.size
    clear hg hc HRK HF HVV hVi
    go_wp2_with (at_builtin;refine wpList_append_own _ rfl (.tmp 12) (.tmp 15) 71 rfl w.heap.size 36 i0 (.slice none 0 0) 1 24 Tryz.underlying71 HI0 hz0 hz1 hz2 rfl (by decide) _ _ _ rfl (howna _ _) ⟨wr.heap.size+1,0,none⟩ 1 1 [.slice (PK i) (F i).q (CK i)] rfl rfl (hqc _) h1c (by unfold maxLen;omega) (by omega) (by simp;omega) ?_;intro v' w2 hown1 hgrow1 _;obtain ⟨g',cap',rfl,_,_⟩:=hown1.form (by omega);have HN:Hid (Kg w V (i+1) (.slice (some ⟨g',0,none⟩) (i+1) cap') w2):=(show ∀ (o1 o2:Obj) (v':Value) (w2:World),_ from HSTP) _ _ _ _ hown1 hgrow1;clear HSTP hown1 hgrow1 howna hqc h1c e0 e1 e2 e3 e4 e5 e6 e7 e8)
    refine ⟨⟨i+1,by go_num,by omega,HN⟩,?_⟩
    simp only [intOf]
    omega
theorem Rs.kz {W W':World} {h:Nat} {v:Value} (s:Rs W h v) (hb:Kz W W'):Rs W' h v:=by
  have l0:=lt_of_cell s.ct
  have l1:=lt_of_cell s.r0
  have b1:=hb.block (h+1) l1
  exact ⟨(hb.cell (p:=⟨h,0,none⟩) l0).trans s.ct,(World.cell?_of_block b1).trans s.r0,(World.cell?_of_block b1).trans s.r1,(World.frozen?_of_block b1).trans s.z0,(World.frozen?_of_block b1).trans s.z1⟩
theorem Rs.retz {w W : World} {v : Value} (s : Rs W w.heap.size v) (hb : Kz w W) (c f : Int) :
    ((W.setCell ⟨w.heap.size+1,0,none⟩ (.int .i64 c)).setCell ⟨w.heap.size+1,1,none⟩ (.int .i64 f)).cell? ⟨w.heap.size+1,0,none⟩=some (.int .i64 c)∧((W.setCell ⟨w.heap.size+1,0,none⟩ (.int .i64 c)).setCell ⟨w.heap.size+1,1,none⟩ (.int .i64 f)).cell? ⟨w.heap.size+1,1,none⟩=some (.int .i64 f)∧Kz w ((W.setCell ⟨w.heap.size+1,0,none⟩ (.int .i64 c)).setCell ⟨w.heap.size+1,1,none⟩ (.int .i64 f)):=by
  refine ⟨?_,?_,(hb.setNew _ (by show w.heap.size≤w.heap.size+1;omega) _).setNew _ (by show w.heap.size≤w.heap.size+1;omega) _⟩
  · rw [set_ne _ _ _ _ _ (by omega)];exact set_eq _ _ _ _ _ s.r0
  · exact set_eq _ _ _ _ _ (by rw [set_ne _ _ _ _ _ (by omega)];exact s.r1)
theorem kz_of {w w':World} (h:w'.os=w.os∧w'.output=w.output∧w.heap.size≤w'.heap.size∧∀ k,k < w.heap.size→w'.heap[k]? = w.heap[k]?):Kz w w':=⟨h.1,h.2.1,h.2.2.1,h.2.2.2⟩
theorem first_uniq {P:Nat→Prop} {i j:Nat} (hi:∀ k,k < i→P k) (hi':¬ P i) (hj:∀ k,k < j→P k) (hj':¬ P j):i=j:=by
  rcases Nat.lt_trichotomy i j with h | h | h
  · exact absurd (hj i h) hi'
  · exact h
  · exact absurd (hi j h) hj'
theorem cell_keepz {a W:World} {b o:Nat} {v:Value} (h:Kz a W) (hc:a.cell? ⟨b,o,none⟩=some v):W.cell? ⟨b,o,none⟩=some v:=(h.cell (p:=⟨b,o,none⟩) (lt_of_cell hc)).trans hc
theorem cell_new1 (W:World) (v:Value) (t:TypeId):(W.alloc (.cells #[v] t)).cell? ⟨W.heap.size,0,none⟩=some v:=by
  rw [World.cell?_alloc_at _ _ _ _ rfl];rfl
theorem cell_new2 (W:World) (u v:Value) (t:TypeId):(W.alloc (.cells #[u,v] t)).cell? ⟨W.heap.size,0,none⟩=some u∧(W.alloc (.cells #[u,v] t)).cell? ⟨W.heap.size,1,none⟩=some v:=by
  constructor <;> (rw [World.cell?_alloc_at _ _ _ _ rfl];rfl)
end Go.Proofs.YtomcmnompajnlaaGreatDoor.Fo
