import Derived.Test.YtfpidccjcemcjaaGreatMZsq
import Derived.Test.YtfpidccjcemcjaaGreatMNgb
import Derived.Test.YtfpidccjcemcjaaGreatMNja
import Derived.Deep.AppendLies
import Derived.MapKept
set_option maxHeartbeats 16000000
namespace Go.Proofs.YtfpidccjcemcjaaGreat.Fo
open Go.ChangeShapes Go.WideShapes Go.ChangeAt Go.RowKit
set_option linter.unusedVariables false
set_option maxRecDepth 100000
theorem upd_hit {D:Nat→Int} {K:Nat→Int} {x:Int} {k:Nat}:∀ q i,i < q→K i=(k:Int)→upd D K x q k=x
  | q+1,i,h,e=>by
    show (if (k:Int)=K q then x else upd D K x q k)=x
    by_cases g:(k:Int)=K q
    · rw [if_pos g]
    · rw [if_neg g]
      exact upd_hit q i (by by_cases e2 : i = q; · subst e2; exact absurd e.symm g
                            · omega) e
theorem upd_mis {D:Nat→Int} {K:Nat→Int} {x:Int} {k:Nat}:∀ q,(∀ i,i < q→K i ≠ (k:Int))→upd D K x q k=D k
 | 0,_=>rfl
 | q+1,h=>by
  show (if (k:Int)=K q then x else upd D K x q k)=D k
  rw [if_neg (fun e=>h q (by omega) e.symm)]
  exact upd_mis q (fun i hi=>h i (by omega))
theorem dpr_stay {N:Nat→Nd} {n k m:Nat} (hm:∀ t,t < m→∀ i,i < (N t).q→(N t).K i ≠ (k:Int)):∀ j r,n≤r+m→r+j≤n→dpr N n (r+j) k=dpr N n r k
 | 0,r,_,_=>rfl
 | j+1,r,h,h2=>by
  show upd (dpr N n (r+j)) (N (n - 1 - (r+j))).K _ (N (n - 1 - (r+j))).q k = _
  rw [upd_mis _ (hm _ (by omega))]
  exact dpr_stay hm j r h (by omega)
theorem dpr_kid {N:Nat→Nd} {n:Nat} (h1:∀ k,k+1 < n→cn N (k:Int) n=1) (hK:∀ t,t < n→∀ i,i < (N t).q→0≤(N t).K i∧(N t).K i < (t:Int)) {k t i:Nat} (ht:t < n) (hi:i < (N t).q) (hk:(N t).K i=(k:Int)):dpr N n n k=dpr N n n t+1:=by
 have hkt:=hK t ht i hi
 have hu:∀ t',t' < n→t' ≠ t→∀ i',i' < (N t').q→(N t').K i' ≠ (k:Int):=fun t' h' hne i' hi' e=>hne (cn_uniq n t' i' t i (by rw [h1 k (by omega)];exact Nat.le_refl _) h' hi' e ht hi hk)
 have e1:=dpr_stay (N:=N) (n:=n) (k:=k) (m:=t) (fun t' ht'=>hu t' (by omega) (by omega)) t (n - t) (by omega) (by omega)
 rw [show n - t+t=n by omega] at e1
 rw [e1]
 obtain ⟨r,hr⟩:∃ r,n - t=r+1:=⟨n - t - 1,by omega⟩
 rw [hr]
 show upd (dpr N n r) (N (n - 1 - r)).K (dpr N n r (n - 1 - r)+1) (N (n - 1 - r)).q k = _
 rw [show n - 1 - r=t by omega,upd_hit _ i hi hk]
 have e2:=dpr_stay (N:=N) (n:=n) (k:=t) (m:=t+1) (fun t' ht' i' hi' e=>by have:=hK t' (by omega) i' hi';omega) (n - r) r (by omega) (by omega)
 rw [show r+(n - r)=n by omega] at e2
 rw [e2]
theorem dpr_last {N:Nat→Nd} {n:Nat} (hK:∀ t,t < n→∀ i,i < (N t).q→0≤(N t).K i∧(N t).K i < (t:Int)) (hn : 0 < n):dpr N n n (n - 1)=0:=by
 have e2:=dpr_stay (N:=N) (n:=n) (k:=n - 1) (m:=n) (fun t' ht' i' hi' e=>by have:=hK t' (by omega) i' hi';omega) n 0 (by omega) (by omega)
 rw [Nat.zero_add] at e2
 rw [e2];rfl
theorem grn_ex {N:Nat→Nd} {n:Nat} (hn : 0 < n) (h1:∀ k,k+1 < n→cn N (k:Int) n=1) (hK:∀ t,t < n→∀ i,i < (N t).q→0≤(N t).K i∧(N t).K i < (t:Int)):∃ PA,Grn N n PA (dpr N n n):=by
  have hex:∀ k,k+1 < n→∃ t:Nat,t < n∧∃ i,i < (N t).q∧(N t).K i=(k:Int):=by
    intro k hk
    refine Classical.byContradiction fun hno=>?_
    have:∀ m,m≤n→cn N (k:Int) m=0:=by
      intro m
      induction m with
      | zero=>intro _;rfl
      | succ m ih =>
        intro hm
        unfold cn
        rw [ih (by omega),ck_zero _ (fun j hj e=>hno ⟨m,by omega,j,hj,e⟩)]
    have h2:=this n (Nat.le_refl _)
    rw [h1 k hk] at h2
    omega
  obtain ⟨T,hT⟩:=choose_fn (α:=Nat) (n:=n - 1) (p:=fun k t=>t < n∧∃ i,i < (N t).q∧(N t).K i=(k:Int)) (fun k hk=>hex k (by omega))
  refine ⟨fun k=>if k+1=n then -1 else (T k:Int),?_,?_,?_⟩
  · show (if n - 1+1=n then (-1:Int) else _) = -1
    rw [if_pos (by omega)]
  · intro k hk
    show Pr N n (k:Int) (cn N (k:Int) n) (if k+1=n then -1 else (T k:Int))
    rw [if_neg (by omega),h1 k hk]
    exact ⟨fun e=>by omega,fun _=>⟨T k,(hT k (by omega)).1,rfl,(hT k (by omega)).2⟩,fun e=>by omega⟩
  · have hb : ∀ d k, k < n → n - k ≤ d → 0 ≤ dpr N n n k ∧ dpr N n n k + (k : Int) + 1 ≤ (n : Int) := by
      intro d
      induction d with
      | zero=>intro k hk hd;omega
      | succ d ih =>
        intro k hk hd
        by_cases e:k+1=n
        · rw [show k=n - 1 by omega,dpr_last hK hn];omega
        · obtain ⟨a1,i,a2,a3⟩:=hT k (by omega)
          have h3:=hK (T k) a1 i a2
          rw [dpr_kid h1 hK a1 a2 a3]
          have:=ih (T k) a1 (by omega)
          omega
    refine ⟨fun k _ hk=>⟨(hb (n - k) k hk (Nat.le_refl _)).1,(hb (n - k) k hk (Nat.le_refl _)).2,fun h0=>?_,fun h0=>?_⟩,fun k hk=>by omega⟩
    · dsimp only at h0 ⊢
      by_cases e:k+1=n
      · rw [if_pos e] at h0;omega
      · obtain ⟨a1,i,a2,a3⟩:=hT k (by omega)
        rw [if_neg e,Int.toNat_natCast]
        exact dpr_kid h1 hK a1 a2 a3
    · dsimp only at h0
      by_cases e:k+1=n
      · rw [show k=n - 1 by omega];exact dpr_last hK hn
      · rw [if_neg e] at h0;omega
theorem p5_iff {N:Nat→Nd} {n j:Nat} (hn : 0 < n) (h1:∀ k,k+1 < n→cn N (k:Int) n=1) (hK:∀ t,t < n→∀ i,i < (N t).q→0≤(N t).K i∧(N t).K i < (t:Int)) (hj:j < n):P5 N n j↔dpr N n n j≤100:=by
 obtain ⟨PA,hg⟩:=grn_ex hn h1 hK
 constructor
 ·intro h;exact h PA _ hg
 ·intro h PB DB hb
  rw [(grn_uniq hb hg h1 hK).2 j hj]
  exact h
theorem tdp_fb {N:Nat→Nd} {n:Nat} {r:Int} (hn : 0 < n) (h1:∀ k,k+1 < n→cn N (k:Int) n=1) (hK:∀ t,t < n→∀ i,i < (N t).q→0≤(N t).K i∧(N t).K i < (t:Int)) (h:Tdp (dpr N n n) n r):Fb (P5 N n) n r:=by
 cases h with
 | «at» i h2 h3 h4=>exact Or.inr ⟨i,rfl,h2,fun g=>by have:=(p5_iff hn h1 hK h2).1 g;omega,fun j hj=>(p5_iff hn h1 hK (by omega)).2 (h3 j hj)⟩
 | none h2=>exact Or.inl ⟨rfl,fun j hj=>(p5_iff hn h1 hK hj).2 (h2 j hj)⟩
theorem node_slots {w:World} {AN:Addr} {n:Nat} {N:Nat→Nd} (hra:∀ i,i < n→NodeC 0 w (AN.add (i*8)) (N i)):∃ (PR PK:Nat→Option Addr) (CR CK:Nat→Nat),∀ i,i < n→CelN w (AN.add (i*8)) (N i).a (.slice (PR i) (N i).p (CR i)) (.slice (PK i) (N i).q (CK i))∧RowB 0 w (.slice (PR i) (N i).p (CR i)) (N i).p (fun j=>.int .i64 ((N i).R j))∧RowB 0 w (.slice (PK i) (N i).q (CK i)) (N i).q (fun j=>.int .i64 ((N i).K j)):=by
 have key:∀ i,i < n→∃ t:(Option Addr × Option Addr) × (Nat × Nat),CelN w (AN.add (i*8)) (N i).a (.slice t.1.1 (N i).p t.2.1) (.slice t.1.2 (N i).q t.2.2)∧RowB 0 w (.slice t.1.1 (N i).p t.2.1) (N i).p (fun j=>.int .i64 ((N i).R j))∧RowB 0 w (.slice t.1.2 (N i).q t.2.2) (N i).q (fun j=>.int .i64 ((N i).K j)):=fun i hi=>by
  obtain ⟨vr,vk,hc,hr,hk⟩:=hra i hi
  obtain ⟨pr,cr,rfl,-⟩:=id hr
  obtain ⟨pk,ck,rfl,-⟩:=id hk
  exact ⟨((pr,pk),(cr,ck)),hc,hr,hk⟩
 obtain ⟨f,hf⟩:=choose_fn (α:=(Option Addr × Option Addr) × (Nat × Nat)) (inst:=⟨((none,none),(0,0))⟩) key
 exact ⟨fun i=>(f i).1.1,fun i=>(f i).1.2,fun i=>(f i).2.1,fun i=>(f i).2.2,hf⟩
theorem infoIs:(Tryz.prog.info? 57).map (fun i=>(i.zero,i.size,i.bytes))=some (some (.slice none 0 0),1,24):=by kernel_rfl
def kcs (V:Nat→Value):Nat→List Value
 | 0=>[]
 | i+1=>kcs V i ++ [V i]
theorem kcs_len (V:Nat→Value) (i:Nat):(kcs V i).length=i:=by
 induction i with
 | zero=>rfl
 | succ i ih=>simp [kcs,ih]
theorem kcs_at (V:Nat→Value) (n i:Nat) (hi:i < n):(kcs V n)[i]? = some (V i):=by
 induction n with
 | zero=>omega
 | succ n ih =>
  show (kcs V n ++ _)[i]? = _
  rcases Nat.lt_or_ge i n with h | h
  ·rw [List.getElem?_append_left (by rw [kcs_len];omega)];exact ih h
  ·have e:i=n:=by omega
   subst e
   rw [List.getElem?_append_right (by rw [kcs_len];omega),kcs_len]
   simp
structure Kg (w:World) (V:Nat→Value) (i:Nat) (v:Value) (W:World):Prop where
 bl:Below w.heap.size w W
 row:W.ownsRow w.heap.size 57 1 v i (kcs V i)
theorem Kg.shape {w:World} {V:Nat→Value} {i:Nat} {v:Value} {W:World} (h:Kg w V i v W):∃ (ad:Option Addr) (cap:Nat),v = .slice ad i cap:=by
 rcases h.row.2 with ⟨rfl,e⟩ | ⟨g,cap,cur,rfl,_⟩
 ·exact ⟨none,0,by rw [e]⟩
 ·exact ⟨_,cap,rfl⟩
theorem Kg.step {w:World} {V:Nat→Value} {i:Nat} {v v':Value} {W W1 w2:World} (h:Kg w V i v W) (hb:Below W.heap.size W W1) (ho:w2.ownsRow w.heap.size 57 1 v' (i+1) (kcs V i ++ [V i])) (hg:W1.grownBy w2 v.ownBlock):Kg w V (i+1) v' w2:=by
 have h1:=h.bl.trans (hb.mono h.bl.size)
 have hs:=hg.size
 have hz:=h1.size
 have hne:∀ k,k < w.heap.size→some k ≠ v.ownBlock:=fun k hk e2=>by have:=(h.row.lt k e2.symm).1;omega
 exact ⟨⟨hg.os.trans h1.os,hg.tape.trans h1.tape,hg.output.trans h1.output,by omega,fun k hk=>(hg.block k (by omega) (hne k hk)).trans (h1.block k hk)⟩,ho⟩
theorem Kg.rows {w:World} {V:Nat→Value} {n:Nat} {v:Value} {W:World} (h:Kg w V n v W):RowV W v n V:=by
 rcases h.row.2 with ⟨rfl,e⟩ | ⟨g,cap,cur,rfl,hg,hcur,hc1,_,hsz,hx⟩
 ·exact ⟨none,0,by rw [e],fun h=>by omega⟩
 ·refine ⟨_,cap,rfl,fun _=>⟨_,rfl,hc1,fun i hi=>?_⟩⟩
  have ea:(⟨g,0,none⟩:Addr).add i=⟨g,i,none⟩:=by unfold Addr.add;split <;> simp_all
  rw [ea,← kcs_at V n i hi,← hx,List.getElem?_take_of_lt (by omega)]
  simp [World.cell?,hcur]
theorem bel2 (w:World) (a b:Obj):Below w.heap.size w ((w.alloc a).alloc b):=((Below.refl _ w).alloc (Nat.le_refl _) _).alloc (by simp) _
theorem bel1 (w:World) (a:Obj):Below w.heap.size w (w.alloc a):=(Below.refl _ w).alloc (Nat.le_refl _) _
theorem qr_cells (w:World) (c:Array Value) (t:TypeId) (l:List Value) (hl:c.toList=l):∀ j u,l[j]? = some u→(w.alloc (.cells c t)).cell? ((⟨w.heap.size,0,none⟩:Addr).add j)=some u:=by
 intro j u hj
 subst hl
 rw [addr0,World.cell?_alloc_mark]
 simpa using hj
theorem kb_deep {w w':World} (h1:w'.os=w.os) (h2:w'.output=w.output) (h3:w.heap.size≤w'.heap.size) (h4:∀ k,k < w.heap.size→w'.heap[k]? = w.heap[k]?):Kb 0 w w':=⟨h1,h2,h3,fun k _ hk=>h4 k hk⟩
theorem im_toodeep {A : Addr} {nf ca f B : Nat} {d : Fd} {vv vu vn : Value} (w : World) (hf : f < nf) (hnf : nf ≤ 1048576) (hb : w.cell? ⟨B, 0, none⟩ = some (.slice (some A) nf ca)) (hcel : CelF w (A.add (f * 7)) d vv vu vn)
  (hrow:RowN 0 w vn d.n d.N) (hn:d.n≤3000) (hn0 : 0 < d.n) (hq:∀ t,t < d.n→(d.N t).q≤200) (hK:∀ t,t < d.n→∀ i,i < (d.N t).q→0≤(d.N t).K i∧(d.N t).K i < (t:Int)) (h1:∀ k,k+1 < d.n→cn d.N (k:Int) d.n=1) :
  Calls Tryz.prog 63 #[.pointer (some ⟨B,0,none⟩),.int .i64 (f:Int)] w fun e w'=>∃ r:Int,e = .returned (.int .i64 r)∧Fb (P5 d.N d.n) d.n r∧Kb 0 w w':=by
 obtain ⟨pn,cnn,rfl,hrow2⟩:=hrow
 obtain ⟨AN,rfl,hcn,-,hra⟩:=hrow2 hn0
 obtain ⟨PR,PK,CR,CK,hsl⟩:=node_slots hra
 obtain ⟨d0,d1,d2,d3,d4,d5,d6⟩:=hcel
 have hfI:(f:Int) < (nf:Int):=by omega
 have hnfI:(nf:Int)≤1048576:=by omega
 have hnI:(d.n:Int)≤3000:=by omega
 obtain ⟨V,hV⟩:∃ V:Nat→Value,V=fun i=>.slice (PK i) (d.N i).q (CK i):=⟨_,rfl⟩
 have HVV:Hid (V=fun i=>.slice (PK i) (d.N i).q (CK i)):=hV
 have HS:Hid (∀ i,i < d.n→CelN w (AN.add (i*8)) (d.N i).a (.slice (PR i) (d.N i).p (CR i)) (.slice (PK i) (d.N i).q (CK i))∧RowB 0 w (.slice (PR i) (d.N i).p (CR i)) (d.N i).p (fun j=>.int .i64 ((d.N i).R j))∧RowB 0 w (.slice (PK i) (d.N i).q (CK i)) (d.N i).q (fun j=>.int .i64 ((d.N i).K j))):=hsl
 have HB:Hid (d.n≤3000∧0 < d.n∧(∀ t,t < d.n→(d.N t).q≤200)∧(∀ t,t < d.n→∀ i,i < (d.N t).q→0≤(d.N t).K i∧(d.N t).K i < (t:Int))∧∀ k,k+1 < d.n→cn d.N (k:Int) d.n=1):=(⟨hn,hn0,hq,hK,h1⟩:_∧_)
 obtain ⟨i0,hi0,hz0,hz1,hz2⟩:=info_parts infoIs
 have HI0:Hid (Tryz.prog.info? 57=some i0):=hi0
 clear hi0 hV hsl hra hrow2 d0 d1 d2 d3 d4 d5 hn hn0 hq hK h1 hf hnf
 go_enter Tryz.func63,Tryz.ntmps63
 go_wp2_with fail
 clear d6 hb
 go_loopw [5,17] (fun s5 s17 wr=>∃ i:Nat,s17 = .int .i64 (i:Int)∧i≤d.n∧Hid (Kg w V i s5 wr)) (fun _ s17 _=>d.n - (intOf s17).toNat)
 case atStart=>exact ⟨0,rfl,Nat.zero_le _,(⟨Below.refl _ _,World.ownsRow_nil _ _ _ _⟩:Kg w V 0 _ _)⟩
 case round =>
  obtain ⟨i,rfl,hin,HG⟩:=hrel
  have hg:=(uh HG)
  obtain ⟨ad,cap,rfl⟩:=hg.shape
  clear HG
  rcases Nat.lt_or_ge i d.n with hi | hi
  case inr =>
   have hiI:¬ (i:Int) < (d.n:Int):=by omega
   have e:i=d.n:=by omega
   have HX:Hid (∃ r:Int→Int,True):=⟨id,trivial⟩
   have HDC:Hid (Calls Tryz.prog 84 #[.slice ad i cap] wr fun e w'=>(∃ r:Int,e = .returned (.int .i64 r)∧Tdp (dpr d.N d.n d.n) d.n r)∧w'.os=wr.os∧w'.output=wr.output∧wr.heap.size≤w'.heap.size∧∀ k,k < wr.heap.size→w'.heap[k]? = wr.heap[k]?):=by
    have hv:=hg.rows
    rw [show V = _ from HVV] at hv
    rw [e] at hv ⊢
    exact im_deep wr hv (fun j hj=>(((uh HS) j hj).2.2.keep (Kb.of_below hg.bl 0)).row) HB.1 HB.2.2.2.1 (fun j hj=>by have:=HB.2.2.1 j hj;omega)
   have HK0:Hid (Kb 0 w wr):=Kb.of_below hg.bl 0
   clear hg e HI0 HS HVV HX
   go_wp2_with fail
   refine (uh HDC).mono ?_
   rintro e w1 ⟨⟨r,rfl,hr⟩,x1,x2,x3,x4⟩
   have HR:Hid (Fb (P5 d.N d.n) d.n r∧Kb 0 w w1):=(⟨tdp_fb HB.2.1 HB.2.2.2.2 HB.2.2.2.1 hr,(uh HK0).trans (kb_deep x1 x2 x3 x4)⟩:_∧_)
   clear hr x1 x2 x3 x4 HDC
   go_wp2_with fail
   go_ret
   exact ⟨r,rfl,HR.1,HR.2⟩
  have hiI:(i:Int) < (d.n:Int):=by omega
  obtain ⟨⟨c0,c1,c2,c3,c4,c5,c6,c7⟩,-,-⟩:=(uh HS) i hi
  have hVi:V i = .slice (PK i) (d.N i).q (CK i):=congrFun HVV i
  have HSTP:Hid (∀ (o1 o2:Obj) (v':Value) (w2:World),w2.ownsRow w.heap.size 57 1 v' (i+1) (kcs V i ++ [.slice (PK i) (d.N i).q (CK i)])→((wr.alloc o1).alloc o2).grownBy w2 (Value.slice ad i cap).ownBlock→Kg w V (i+1) v' w2):=(fun o1 o2 v' w2 ho hgr=>by
   rw [← hVi] at ho
   exact hg.step (bel2 _ _ _) ho hgr:∀ (o1 o2:Obj) (v':Value) (w2:World),_)
  have howna:∀ a b:Obj,((wr.alloc a).alloc b).ownsRow w.heap.size 57 1 (.slice ad i cap) i (kcs V i):=fun a b=>(hg.row.alloc a).alloc b
  have kw:=Kb.of_below hg.bl 0
  replace c0:=kw.cell c0
  replace c1:=kw.cell c1
  replace c2:=kw.cell c2
  replace c3:=kw.cell c3
  replace c4:=kw.cell c4
  replace c5:=kw.cell c5
  replace c6:=kw.cell c6
  replace c7:=kw.cell c7
  have hst:=hst0
  have hqc:∀ (o:Obj) (j:Nat) (u:Value),([.slice (PK i) (d.N i).q (CK i)]:List Value)[j]? = some u→((wr.alloc o).alloc (.cells #[.slice (PK i) (d.N i).q (CK i)] 57)).cell? ((⟨wr.heap.size+1,0,none⟩:Addr).add j)=some u:=fun o=>by
   have:=qr_cells (wr.alloc o) #[.slice (PK i) (d.N i).q (CK i)] 57 [.slice (PK i) (d.N i).q (CK i)] rfl
   simpa using this
  have h1c:∀ u ∈ ([.slice (PK i) (d.N i).q (CK i)]:List Value),u.oneCell'=true:=by intro u hu;simp at hu;subst hu;rfl
  have hbs:w.heap.size≤wr.heap.size:=hg.bl.size
  clear hg HS HVV hVi kw HB
  go_wp2_with (at_builtin;refine wpList_append_own _ rfl (.tmp 21) (.tmp 24) 115 rfl w.heap.size 57 i0 (.slice none 0 0) 1 24 Tryz.underlying115 HI0 hz0 hz1 hz2 rfl (by decide) _ _ _ rfl (howna _ _) ⟨wr.heap.size+1,0,none⟩ 1 1 [.slice (PK i) (d.N i).q (CK i)] rfl rfl (hqc _) h1c (by unfold maxLen;omega) (by omega) (by simp;omega) ?_;intro v' w2 hown1 hgrow1 _;obtain ⟨g',cap',rfl,_,_⟩:=hown1.form (by omega);have HN:Hid (Kg w V (i+1) (.slice (some ⟨g',0,none⟩) (i+1) cap') w2):=(uh HSTP) _ _ _ _ hown1 hgrow1;clear HSTP hown1 hgrow1 howna hqc h1c c0 c1 c2 c3 c4 c5 c6 c7)
  refine ⟨⟨i+1,by go_num,by omega,HN⟩,?_⟩
  simp only [intOf]
  omega
theorem tMI:Tryz.prog.underlying 96=some (.map 3 3):=by kernel_rfl
theorem t3I:Tryz.prog.underlying 3=some (.int .i64):=by kernel_rfl
def Mi (w:World) (M:Nat) (L:List Int):Prop:=∃ es clock,w.heap[M]? = some (.map es clock)∧es.toList.map (fun e=>e.key)=L.map (fun x=>Value.int .i64 x)∧∀ e ∈ es.toList,∃ p:Int,e.val = .int .i64 p
theorem mi_key {es:Array MapEntry} {L:List Int} (h:es.toList.map (fun e=>e.key)=L.map (fun x=>Value.int .i64 x)):∀ e ∈ es.toList,MapKept.IsKey (.int .i64) e.key:=by
 intro e he
 have:e.key ∈ es.toList.map (fun e=>e.key):=List.mem_map.2 ⟨e,he,rfl⟩
 rw [h] at this
 obtain ⟨y,_,hy⟩:=List.mem_map.1 this
 rw [← hy]
 rfl
theorem mi_mem {es:Array MapEntry} {L:List Int} (h:es.toList.map (fun e=>e.key)=L.map (fun x=>Value.int .i64 x)) (x:Int):(∃ e ∈ es.toList,e.key = .int .i64 x)↔x ∈ L:=by
 have e1:(∃ e ∈ es.toList,e.key = .int .i64 x)↔Value.int .i64 x ∈ es.toList.map (fun e=>e.key):=by simp
 rw [e1,h]
 simp
theorem run_lookI {w:World} {M:Nat} {L:List Int} (h:Mi w M L) (x:Int):∃ p:Int,(Instr.lookup 96 (.map (some M)) (.int .i64 x) true).run Tryz.prog w = .ok (.tuple #[.int .i64 p,.bool (dc (x ∈ L))]) w:=by
 obtain ⟨es,clock,hb,he,hv⟩:=h
 have hk:MapKept.IsKey (.int .i64) (.int .i64 x):=rfl
 have hc:=MapKept.run_checkKey (w:=w) t3I hk
 rcases MapKept.findNow_spec hk es.toList 0 (mi_key he) with ⟨h1,h2⟩ | ⟨j,e,h1,h2,h3⟩
 ·refine ⟨0,?_⟩
  have hr:=MapKept.run_findKey (w:=w) t3I h1
  rw [dc_f (fun g=>by obtain ⟨e,e1,e2⟩:=(mi_mem he x).2 g;exact h2 e e1 e2)]
  unfold Instr.lookup
  have hz:(zeroValue 3).run Tryz.prog w = .ok (.int .i64 0) w:=by kernel_rfl
  simp only [Sem.run_bind,run_underlying tMI,Result.andThen_ok,MapKept.run_getObj_map hb,Sem.run_pure,hc,hr,hz]
  rfl
 ·obtain ⟨p,hp⟩:=hv e (List.mem_of_getElem? h2)
  refine ⟨p,?_⟩
  have hr:=MapKept.run_findKey (w:=w) t3I h1
  rw [dc_t ((mi_mem he x).1 ⟨e,List.mem_of_getElem? h2,h3⟩)]
  unfold Instr.lookup
  simp only [Sem.run_bind,run_underlying tMI,Result.andThen_ok,MapKept.run_getObj_map hb,Sem.run_pure,hc,hr]
  rw [hp]
  rfl
theorem run_lookN (w:World) (x:Int):(Instr.lookup 96 (.map none) (.int .i64 x) true).run Tryz.prog w = .ok (.tuple #[.int .i64 0,.bool false]) w:=by kernel_rfl
theorem run_makeI (w:World):(Instr.makeMap 96 none).run Tryz.prog w = .ok (.map (some w.heap.size)) (w.alloc (.map #[] 0)):=by kernel_rfl
def setB (w:World) (M:Nat) (o:Obj):World:={ w with heap:=w.heap.setIfInBounds M o }
theorem setB_ne (w:World) (M:Nat) (o:Obj) (b:Nat) (h:b ≠ M):(setB w M o).heap[b]? = w.heap[b]?:=by
 unfold setB
 show (w.heap.setIfInBounds M o)[b]? = _
 rw [Array.getElem?_setIfInBounds,if_neg (fun e=>h e.symm)]
theorem run_updI {w:World} {M:Nat} {L:List Int} (h:Mi w M L) (x t:Int) (hn:x ∉ L):∃ o,(Instr.mapUpdate 96 (.map (some M)) (.int .i64 x) (.int .i64 t)).run Tryz.prog w = .ok () (setB w M o)∧Mi (setB w M o) M (L ++ [x]):=by
 obtain ⟨es,clock,hb,he,hv⟩:=h
 have hk:MapKept.IsKey (.int .i64) (.int .i64 x):=rfl
 have hc:=MapKept.run_checkKey (w:=w) t3I hk
 rcases MapKept.findNow_spec hk es.toList 0 (mi_key he) with ⟨h1,h2⟩ | ⟨j,e,h1,h2,h3⟩
 ·have hr:=MapKept.run_findKey (w:=w) t3I h1
  refine ⟨.map (es.push { key:=.int .i64 x,val:=.int .i64 t,born:=clock }) (clock+1),?_,?_⟩
  ·unfold Instr.mapUpdate
   simp only [Sem.run_bind,run_underlying tMI,Result.andThen_ok,MapKept.run_getObj_map hb,hc,hr,MapKept.run_setObj_map _ hb]
   rfl
  ·refine ⟨_,_,(MapKept.heap_set hb).1,?_,?_⟩
   ·simp [he]
   ·intro e hm
    simp at hm
    rcases hm with hm | rfl
    ·exact hv e (by simpa using hm)
    ·exact ⟨t,rfl⟩
 ·exact absurd ((mi_mem he x).1 ⟨e,List.mem_of_getElem? h2,h3⟩) hn
theorem Mi.on {a w:World} {M:Nat} {L:List Int} (h:Mi a M L) (k:w.heap[M]? = a.heap[M]?):Mi w M L:=by
 obtain ⟨es,clock,hb,he⟩:=h
 exact ⟨es,clock,k.trans hb,he⟩
theorem Mi.new (w:World):Mi (w.alloc (.map #[] 0)) w.heap.size []:=⟨#[],0,(MapKept.heap_alloc w _).1,rfl,by simp⟩
def iv (L:List Int):List Value:=L.map (fun x=>Value.int .i64 x)
structure Zt (S o:Nat) (L:List Int) (v m:Value) (W:World):Prop where
 c0:W.cell? ⟨S,o,none⟩=some v
 c1:W.cell? ⟨S,o+1,none⟩=some m
 fz:∀ j,W.frozen? ⟨S,j,none⟩=false
 row:W.ownsRow 0 3 1 v L.length (iv L)
 mp:(L = []∧m = .map none)∨∃ M,m = .map (some M)∧Mi W M L
 ne:v.ownBlock ≠ some S
structure Ks (S o:Nat) (v m v' m':Value) (w w':World):Prop where
 os:w'.os=w.os
 output:w'.output=w.output
 size:w.heap.size≤w'.heap.size
 block:∀ k,k < w.heap.size→k ≠ S→v.ownBlock ≠ some k→m ≠ .map (some k)→w'.heap[k]? = w.heap[k]?
 cells:∀ j,j ≠ o→j ≠ o+1→w'.cell? ⟨S,j,none⟩=w.cell? ⟨S,j,none⟩
 hv:∀ k,v'.ownBlock=some k→v.ownBlock=some k∨w.heap.size≤k
 hm:∀ k,m' = .map (some k)→m = .map (some k)∨w.heap.size≤k
theorem Ks.refl (S o:Nat) (v m:Value) (w:World):Ks S o v m v m w w:=⟨rfl,rfl,Nat.le_refl _,fun _ _ _ _ _=>rfl,fun _ _ _=>rfl,fun _ h=>.inl h,fun _ h=>.inl h⟩
theorem Ks.trans {S o:Nat} {v m v1 m1 v2 m2:Value} {a b c:World} (h:Ks S o v m v1 m1 a b) (k:Ks S o v1 m1 v2 m2 b c):Ks S o v m v2 m2 a c:=by
 have h0:=h.size
 refine ⟨k.os.trans h.os,k.output.trans h.output,Nat.le_trans h.size k.size,fun i hi h1 h2 h3=>?_,fun j h1 h2=>(k.cells j h1 h2).trans (h.cells j h1 h2),fun i hi=>?_,fun i hi=>?_⟩
 ·refine (k.block i (by omega) h1 (fun e=>?_) (fun e=>?_)).trans (h.block i hi h1 h2 h3)
  ·rcases h.hv i e with q | q
   ·exact h2 q
   ·omega
  ·rcases h.hm i e with q | q
   ·exact h3 q
   ·omega
 ·rcases k.hv i hi with q | q
  ·exact h.hv i q
  ·exact .inr (by omega)
 ·rcases k.hm i hi with q | q
  ·exact h.hm i q
  ·exact .inr (by omega)
theorem lt_of_obj {W:World} {B:Nat} {o:Obj} (h:W.heap[B]? = some o):B < W.heap.size:=by
 rcases Nat.lt_or_ge B W.heap.size with g | g
 ·exact g
 ·rw [Array.getElem?_eq_none g] at h;cases h
theorem rowBlk {W W':World} {base e size:Nat} {v:Value} {n:Nat} {xs:List Value} (h:W.ownsRow base e size v n xs) (hk:∀ g,v.ownBlock=some g→W'.heap[g]? = W.heap[g]?):W'.ownsRow base e size v n xs:=by
 refine ⟨h.1,?_⟩
 rcases h.2 with h | ⟨g,cap,cur,e1,e2,e3,e4⟩
 ·exact .inl h
 ·exact .inr ⟨g,cap,cur,e1,e2,(hk g (by rw [e1];rfl)).trans e3,e4⟩
theorem map_cells {W:World} {M S j:Nat} {L:List Int} {v:Value} (h:Mi W M L) (hc:W.cell? ⟨S,j,none⟩=some v):M ≠ S:=by
 rintro rfl
 obtain ⟨es,clock,hb,_⟩:=h
 simp [World.cell?,hb] at hc
theorem map_row {W:World} {M g n:Nat} {L:List Int} {v:Value} {xs:List Value} (h:Mi W M L) (hr:W.ownsRow 0 3 1 v n xs) (hg:v.ownBlock=some g):M ≠ g:=by
 rintro rfl
 obtain ⟨es,clock,hb,_⟩:=h
 rcases hr.2 with ⟨rfl,_⟩ | ⟨g',cap,cur,e1,e2,e3,e4⟩
 ·cases hg
 ·have e:g'=M:=by rw [e1] at hg;simpa [Value.ownBlock] using hg
  subst e
  rw [e3] at hb;cases hb
theorem Zt.on {S o:Nat} {L:List Int} {v m:Value} {W W':World} (h:Zt S o L v m W) (k:Kb 0 W W'):Zt S o L v m W':=by
 refine ⟨k.cell h.c0,k.cell h.c1,fun j=>(k.frozen zq (lt_of_cell' h.c0)).trans (h.fz j),rowBlk h.row (fun g e=>k.block g zq (h.row.lt g e).2),?_,h.ne⟩
 rcases h.mp with q | ⟨M,e,hM⟩
 ·exact .inl q
 ·obtain ⟨es,clock,hb,he⟩:=hM
  exact .inr ⟨M,e,es,clock,(k.block M zq (lt_of_obj hb)).trans hb,he⟩
theorem Zt.shape {S o:Nat} {L:List Int} {v m:Value} {W:World} (h:Zt S o L v m W):∃ (ad:Option Addr) (cap:Nat),v = .slice ad L.length cap:=by
 rcases h.row.2 with ⟨rfl,e⟩ | ⟨g,cap,cur,rfl,_⟩
 ·exact ⟨none,0,by rw [show L.length=0 from e]⟩
 ·exact ⟨_,cap,rfl⟩
theorem Zt.add {S o M : Nat} {L : List Int} {v v' : Value} {x : Int} {W w7 : World} {ob E : Obj} (h : Zt S o L v (.map (some M)) W) (hM : Mi (setB W M ob) M (L ++ [x])) (ho : w7.ownsRow 0 3 1 v' (L.length + 1) (iv L ++ [.int .i64 x])) (hg : ((setB W M ob).alloc E).grownBy w7 v.ownBlock) (hl : ∀ g, v'.ownBlock = some g → v.ownBlock = some g ∨ g = W.heap.size + 1) :
  w7.cell? ⟨S,o,none⟩=some v∧w7.frozen? ⟨S,o,none⟩=false∧Zt S o (L ++ [x]) v' (.map (some M)) (w7.setCell ⟨S,o,none⟩ v')∧Ks S o v (.map (some M)) v' (.map (some M)) W (w7.setCell ⟨S,o,none⟩ v'):=by
 have hMM:Mi W M L:=by
  rcases h.mp with ⟨_,q⟩ | ⟨M',e,hM'⟩
  ·cases q
  ·have:M=M':=by simpa using e
   subst this;exact hM'
 have hMS:M ≠ S:=map_cells hMM h.c0
 have hSl:=lt_of_cell' h.c0
 have hMl:M < W.heap.size:=by obtain ⟨es,clock,hb,_⟩:=hMM;exact lt_of_obj hb
 have hsz:(setB W M ob).heap.size=W.heap.size:=by unfold setB;simp
 have hSl':S < W.heap.size:=hSl
 have hblk:∀ k,k < W.heap.size→k ≠ M→v.ownBlock ≠ some k→w7.heap[k]? = W.heap[k]?:=fun k hk hkM hne=>by
  rw [hg.block k (by rw [World.size_alloc,hsz];omega) (fun e=>hne e.symm),Below.heap_alloc _ _ _ (by rw [hsz];omega)]
  exact setB_ne _ _ _ _ hkM
 have hS7:w7.heap[S]? = W.heap[S]?:=hblk S hSl' (fun e=>hMS e.symm) h.ne
 have hv'S:∀ g,v'.ownBlock=some g→g ≠ S:=fun g e=>by
  rcases hl g e with q | q
  ·rintro rfl;exact h.ne q
  ·omega
 have hM7:w7.heap[M]? = (setB W M ob).heap[M]?:=by
  rw [hg.block M (by rw [World.size_alloc,hsz];omega) (fun e=>map_row hMM h.row e.symm rfl),Below.heap_alloc _ _ _ (by rw [hsz];omega)]
 have hse:∀ k,k ≠ S→(w7.setCell ⟨S,o,none⟩ v').heap[k]? = w7.heap[k]?:=fun k hne=>Below.heap_setCell w7 _ _ _ hne
 have hc7:w7.cell? ⟨S,o,none⟩=some v:=(World.cell?_of_block hS7).trans h.c0
 have hf7:∀ j,w7.frozen? ⟨S,j,none⟩=false:=fun j=>(World.frozen?_of_block hS7).trans (h.fz j)
 have hgs:=hg.size
 rw [World.size_alloc,hsz] at hgs
 refine ⟨hc7,hf7 o,⟨set_eq _ _ _ _ _ hc7,?_,fun j=>(set_fz _ _ _ _ _).trans (hf7 j),?_,.inr ⟨M,rfl,hM.on ((hse M hMS).trans hM7)⟩,fun e=>hv'S S e rfl⟩,⟨?_,?_,by rw [World.size_setCell];omega,fun k hk h1 h2 h3=>?_,fun j h1 h2=>?_,fun k hk=>?_,fun k hk=>.inl hk⟩⟩
 ·rw [set_ne _ _ _ _ _ (by omega)]
  exact (World.cell?_of_block hS7).trans h.c1
 ·rw [List.length_append]
  refine rowBlk (W:=w7) ?_ (fun g e=>hse g (hv'S g e))
  unfold iv at ho ⊢
  simpa using ho
 ·exact hg.os
 ·exact hg.output
 ·rw [hse k h1]
  exact hblk k hk (fun e=>h3 (by rw [e])) h2
 ·rw [set_ne _ _ _ _ _ h1]
  exact World.cell?_of_block hS7
 ·rcases hl k hk with q | q
  ·exact .inl q
  ·exact .inr (by omega)
theorem infoI:(Tryz.prog.info? 3).map (fun i=>(i.zero,i.size,i.bytes))=some (some (.int .i64 0),1,8):=by kernel_rfl
theorem im_has {S o:Nat} {L:List Int} {v m:Value} (x:Int) (w:World) (h:Zt S o L v m w):Calls Tryz.prog 89 #[.pointer (some ⟨S,o,none⟩),.int .i64 x] w fun e w'=>e = .returned (.bool (dc (x ∈ L)))∧w'=w:=by
 have c1:=h.c1
 obtain ⟨p,hl⟩:∃ p:Int,(Instr.lookup 96 m (.int .i64 x) true).run Tryz.prog w = .ok (.tuple #[.int .i64 p,.bool (dc (x ∈ L))]) w:=by
  rcases h.mp with ⟨rfl,rfl⟩ | ⟨M,rfl,hM⟩
  ·rw [dc_f (by simp)];exact ⟨0,run_lookN w x⟩
  ·exact run_lookI hM x
 have hmv:∃ b,m = .map b:=by
  rcases h.mp with ⟨rfl,rfl⟩ | ⟨M,rfl,hM⟩ <;> exact ⟨_,rfl⟩
 obtain ⟨b,rfl⟩:=hmv
 clear h
 generalize dc (x ∈ L)=z at *
 go_enter Tryz.func89,Tryz.ntmps89
 go_wp2_with fail
 go_ret
 exact ⟨rfl,rfl⟩
end Go.Proofs.YtfpidccjcemcjaaGreat.Fo
