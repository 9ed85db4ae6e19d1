import Derived.Test.YtfpidccjcemcjaaGreatMZsq
import Derived.Test.YtfpidccjcemcjaaGreatMNdr
import Derived.Deep.RegionHeldLaw
import Derived.Deep.CutRange
set_option maxHeartbeats 16000000
namespace Go.Proofs.YtfpidccjcemcjaaGreat.Fo
open Go.ChangeShapes Go.WideShapes Go.ChangeAt Go.RowKit
set_option linter.unusedVariables false
set_option maxRecDepth 100000
structure Gw (w:World) (T gp gd n:Nat) (PA DA:Nat→Int) (W:World):Prop where
 kb:Kb 0 w W
 r0:W.cell? ⟨w.heap.size,0,none⟩=some (.slice none 0 0)
 r1:W.cell? ⟨w.heap.size,1,none⟩=some (.slice none 0 0)
 fr:∀ j,W.frozen? ⟨w.heap.size,j,none⟩=false
 t0:W.cell? ⟨T,0,none⟩=some (.slice (some ⟨gp,0,none⟩) n n)
 t1:W.cell? ⟨T,1,none⟩=some (.slice (some ⟨gd,0,none⟩) n n)
 p:∀ k,k < n→W.cell? ⟨gp,k,none⟩=some (.int .i64 (PA k))
 d:∀ k,k < n→W.cell? ⟨gd,k,none⟩=some (.int .i64 (DA k))
 fp:∀ j,W.frozen? ⟨gp,j,none⟩=false
 fd:∀ j,W.frozen? ⟨gd,j,none⟩=false
 ne:w.heap.size < T∧w.heap.size < gp∧w.heap.size < gd∧gp ≠ gd∧T ≠ gp∧T ≠ gd
theorem set_far (W:World) (g o b j:Nat) (v:Value) (h:b ≠ g):(W.setCell ⟨g,o,none⟩ v).cell? ⟨b,j,none⟩=W.cell? ⟨b,j,none⟩ :=
 World.cell?_of_block (Below.heap_setCell _ _ _ _ h)
theorem Gw.setP {w W:World} {T gp gd n:Nat} {PA DA PB:Nat→Int} (h:Gw w T gp gd n PA DA W) {k:Nat} {v:Int} (hk:k < n) (hB:∀ j,j < n→PB j=if j=k then v else PA j):Gw w T gp gd n PB DA (W.setCell ⟨gp,k,none⟩ (.int .i64 v)):=by
 obtain ⟨n1,n2,n3,n4,n5,n6⟩:=h.ne
 refine ⟨h.kb.setCell _ (Or.inr (by show w.heap.size≤gp;omega)) _,(set_far _ _ _ _ _ _ (by omega)).trans h.r0,(set_far _ _ _ _ _ _ (by omega)).trans h.r1,fun j=>by simpa using h.fr j,(set_far _ _ _ _ _ _ n5).trans h.t0,(set_far _ _ _ _ _ _ n5).trans h.t1,fun j hj=>?_,fun j hj=>(set_far _ _ _ _ _ _ (Ne.symm n4)).trans (h.d j hj),fun j=>by simpa using h.fp j,fun j=>by simpa using h.fd j,h.ne⟩
 rw [hB j hj]
 by_cases e:j=k
 ·subst e;rw [if_pos rfl];exact set_eq _ _ _ _ _ (h.p j hj)
 ·rw [if_neg e,set_ne _ _ _ _ _ e];exact h.p j hj
theorem Gw.setD {w W:World} {T gp gd n:Nat} {PA DA DB:Nat→Int} (h:Gw w T gp gd n PA DA W) {k:Nat} {v:Int} (hk:k < n) (hB:∀ j,j < n→DB j=if j=k then v else DA j):Gw w T gp gd n PA DB (W.setCell ⟨gd,k,none⟩ (.int .i64 v)):=by
 obtain ⟨n1,n2,n3,n4,n5,n6⟩:=h.ne
 refine ⟨h.kb.setCell _ (Or.inr (by show w.heap.size≤gd;omega)) _,(set_far _ _ _ _ _ _ (by omega)).trans h.r0,(set_far _ _ _ _ _ _ (by omega)).trans h.r1,fun j=>by simpa using h.fr j,(set_far _ _ _ _ _ _ n6).trans h.t0,(set_far _ _ _ _ _ _ n6).trans h.t1,fun j hj=>(set_far _ _ _ _ _ _ n4).trans (h.p j hj),fun j hj=>?_,fun j=>by simpa using h.fp j,fun j=>by simpa using h.fd j,h.ne⟩
 rw [hB j hj]
 by_cases e:j=k
 ·subst e;rw [if_pos rfl];exact set_eq _ _ _ _ _ (h.d j hj)
 ·rw [if_neg e,set_ne _ _ _ _ _ e];exact h.d j hj
theorem Gw.drew {w W:World} {T gp gd n:Nat} {PA DA:Nat→Int} (h:Gw w T gp gd n PA DA W):Gw w T gp gd n PA DA W.drew:=⟨h.kb.drew,h.r0,h.r1,h.fr,h.t0,h.t1,h.p,h.d,h.fp,h.fd,h.ne⟩
theorem Gw.eqv {w W:World} {T gp gd n:Nat} {PA DA PB DB:Nat→Int} (h:Gw w T gp gd n PA DA W) (h1:∀ k,k < n→PB k=PA k) (h2:∀ k,k < n→DB k=DA k):Gw w T gp gd n PB DB W :=
 ⟨h.kb,h.r0,h.r1,h.fr,h.t0,h.t1,fun k hk=>by rw [h1 k hk];exact h.p k hk,fun k hk=>by rw [h2 k hk];exact h.d k hk,h.fp,h.fd,h.ne⟩
theorem four_new (w : World) (a b c d : Array Value) (t0 t1 t2 t3 : TypeId) (W : World) (h : W = (((w.alloc (.cells a t0)).alloc (.cells b t1)).alloc (.cells c t2)).alloc (.cells d t3)) :
  W.heap[w.heap.size]? = some (.cells a t0 (0,0))∧W.heap[w.heap.size+1]? = some (.cells b t1 (0,0))∧W.heap[w.heap.size+1+1]? = some (.cells c t2 (0,0))∧W.heap[w.heap.size+1+1+1]? = some (.cells d t3 (0,0))∧Kb 0 w W:=by
 obtain ⟨V,hV⟩:∃ V,V=((w.alloc (.cells a t0)).alloc (.cells b t1)).alloc (.cells c t2):=⟨_,rfl⟩
 rw [← hV] at h
 obtain ⟨q1,q2,q3,q4,q5⟩:=three_new w a b c t0 t1 t2 V hV
 subst h
 refine ⟨?_,?_,?_,?_,q5.alloc _⟩
 ·rw [(kb_alloc 0 _ _).block _ zq (by omega)];exact q1
 ·rw [(kb_alloc 0 _ _).block _ zq (by omega)];exact q2
 ·rw [(kb_alloc 0 _ _).block _ zq (by omega)];exact q3
 ·rw [show w.heap.size+1+1+1=V.heap.size by omega];exact alloc_new _ _ _
theorem made_row {W:World} {g n:Nat} {t:TypeId} (h:W.heap[g]? = some (.cells (madeCells #[.int .i64 0] (n*1)) t (0,0))):(∀ k,k < n→W.cell? ⟨g,k,none⟩=some (.int .i64 0))∧∀ j,W.frozen? ⟨g,j,none⟩=false:=by
 refine ⟨fun k hk=>cell_of h ?_,fun j=>frozen_of h⟩
 simp [madeCells,hk,Nat.mod_one]
theorem gw_of {w W : World} {T gp gd n : Nat} {t0 t1 t2 t3 : TypeId} (kb : Kb 0 w W) (hr : W.heap[w.heap.size]? = some (.cells #[.slice none 0 0, .slice none 0 0] t0 (0, 0))) (hT : W.heap[T]? = some (.cells #[.slice (some ⟨gp, 0, none⟩) n n, .slice (some ⟨gd, 0, none⟩) n n] t1 (0, 0)))
  (hp:W.heap[gp]? = some (.cells (madeCells #[.int .i64 0] (n*1)) t2 (0,0))) (hd:W.heap[gd]? = some (.cells (madeCells #[.int .i64 0] (n*1)) t3 (0,0))) (ne:w.heap.size < T∧w.heap.size < gp∧w.heap.size < gd∧gp ≠ gd∧T ≠ gp∧T ≠ gd):Gw w T gp gd n (fun _=>0) (fun _=>0) W :=
 ⟨kb,cell_of hr rfl,cell_of hr rfl,fun j=>frozen_of hr,cell_of hT rfl,cell_of hT rfl,(made_row hp).1,(made_row hd).1,(made_row hp).2,(made_row hd).2,ne⟩
theorem gw0 (w:World) (n:Nat):Gw w (w.heap.size+1+1+1) (w.heap.size+1) (w.heap.size+1+1) n (fun _=>0) (fun _=>0) ((((w.alloc (.cells #[.slice none 0 0,.slice none 0 0] 75)).alloc (.cells (madeCells #[.int .i64 0] (n*Tryz.t3.size)) 3)).alloc (.cells (madeCells #[.int .i64 0] (n*Tryz.t3.size)) 3)).alloc (.cells #[.slice (some ⟨w.heap.size+1,0,none⟩) n n,.slice (some ⟨w.heap.size+1+1,0,none⟩) n n] 75)):=by
 obtain ⟨q1,q2,q3,q4,q5⟩:=four_new w _ _ _ _ _ _ _ _ ((((w.alloc (.cells #[.slice none 0 0,.slice none 0 0] 75)).alloc (.cells (madeCells #[.int .i64 0] (n*Tryz.t3.size)) 3)).alloc (.cells (madeCells #[.int .i64 0] (n*Tryz.t3.size)) 3)).alloc (.cells #[.slice (some ⟨w.heap.size+1,0,none⟩) n n,.slice (some ⟨w.heap.size+1+1,0,none⟩) n n] 75)) rfl
 exact gw_of q5 q1 q4 q2 q3 ⟨by omega,by omega,by omega,by omega,by omega,by omega⟩
theorem gw1 (w:World) (n:Nat):Gw w (w.heap.size+1+1) (w.heap.size+1) (w.heap.size+1+1+1) n (fun _=>0) (fun _=>0) ((((w.alloc (.cells #[.slice none 0 0,.slice none 0 0] 75)).alloc (.cells (madeCells #[.int .i64 0] (n*Tryz.t3.size)) 3)).alloc (.cells #[.slice (some ⟨w.heap.size+1,0,none⟩) n n,.slice (some ⟨w.heap.size+1+1+1,0,none⟩) n n] 75)).alloc (.cells (madeCells #[.int .i64 0] (n*Tryz.t3.size)) 3)):=by
 obtain ⟨q1,q2,q3,q4,q5⟩:=four_new w _ _ _ _ _ _ _ _ ((((w.alloc (.cells #[.slice none 0 0,.slice none 0 0] 75)).alloc (.cells (madeCells #[.int .i64 0] (n*Tryz.t3.size)) 3)).alloc (.cells #[.slice (some ⟨w.heap.size+1,0,none⟩) n n,.slice (some ⟨w.heap.size+1+1+1,0,none⟩) n n] 75)).alloc (.cells (madeCells #[.int .i64 0] (n*Tryz.t3.size)) 3)) rfl
 exact gw_of q5 q1 q3 q2 q4 ⟨by omega,by omega,by omega,by omega,by omega,by omega⟩
theorem gw2 (w:World) (n:Nat):Gw w (w.heap.size+1+1+1) (w.heap.size+1+1) (w.heap.size+1) n (fun _=>0) (fun _=>0) ((((w.alloc (.cells #[.slice none 0 0,.slice none 0 0] 75)).alloc (.cells (madeCells #[.int .i64 0] (n*Tryz.t3.size)) 3)).alloc (.cells (madeCells #[.int .i64 0] (n*Tryz.t3.size)) 3)).alloc (.cells #[.slice (some ⟨w.heap.size+1+1,0,none⟩) n n,.slice (some ⟨w.heap.size+1,0,none⟩) n n] 75)):=by
 obtain ⟨q1,q2,q3,q4,q5⟩:=four_new w _ _ _ _ _ _ _ _ ((((w.alloc (.cells #[.slice none 0 0,.slice none 0 0] 75)).alloc (.cells (madeCells #[.int .i64 0] (n*Tryz.t3.size)) 3)).alloc (.cells (madeCells #[.int .i64 0] (n*Tryz.t3.size)) 3)).alloc (.cells #[.slice (some ⟨w.heap.size+1+1,0,none⟩) n n,.slice (some ⟨w.heap.size+1,0,none⟩) n n] 75)) rfl
 exact gw_of q5 q1 q4 q3 q2 ⟨by omega,by omega,by omega,by omega,by omega,by omega⟩
theorem gw3 (w:World) (n:Nat):Gw w (w.heap.size+1+1) (w.heap.size+1+1+1) (w.heap.size+1) n (fun _=>0) (fun _=>0) ((((w.alloc (.cells #[.slice none 0 0,.slice none 0 0] 75)).alloc (.cells (madeCells #[.int .i64 0] (n*Tryz.t3.size)) 3)).alloc (.cells #[.slice (some ⟨w.heap.size+1+1+1,0,none⟩) n n,.slice (some ⟨w.heap.size+1,0,none⟩) n n] 75)).alloc (.cells (madeCells #[.int .i64 0] (n*Tryz.t3.size)) 3)):=by
 obtain ⟨q1,q2,q3,q4,q5⟩:=four_new w _ _ _ _ _ _ _ _ ((((w.alloc (.cells #[.slice none 0 0,.slice none 0 0] 75)).alloc (.cells (madeCells #[.int .i64 0] (n*Tryz.t3.size)) 3)).alloc (.cells #[.slice (some ⟨w.heap.size+1+1+1,0,none⟩) n n,.slice (some ⟨w.heap.size+1,0,none⟩) n n] 75)).alloc (.cells (madeCells #[.int .i64 0] (n*Tryz.t3.size)) 3)) rfl
 exact gw_of q5 q1 q3 q4 q2 ⟨by omega,by omega,by omega,by omega,by omega,by omega⟩
theorem gw4 (w:World) (n:Nat):Gw w (w.heap.size+1) (w.heap.size+1+1) (w.heap.size+1+1+1) n (fun _=>0) (fun _=>0) ((((w.alloc (.cells #[.slice none 0 0,.slice none 0 0] 75)).alloc (.cells #[.slice (some ⟨w.heap.size+1+1,0,none⟩) n n,.slice (some ⟨w.heap.size+1+1+1,0,none⟩) n n] 75)).alloc (.cells (madeCells #[.int .i64 0] (n*Tryz.t3.size)) 3)).alloc (.cells (madeCells #[.int .i64 0] (n*Tryz.t3.size)) 3)):=by
 obtain ⟨q1,q2,q3,q4,q5⟩:=four_new w _ _ _ _ _ _ _ _ ((((w.alloc (.cells #[.slice none 0 0,.slice none 0 0] 75)).alloc (.cells #[.slice (some ⟨w.heap.size+1+1,0,none⟩) n n,.slice (some ⟨w.heap.size+1+1+1,0,none⟩) n n] 75)).alloc (.cells (madeCells #[.int .i64 0] (n*Tryz.t3.size)) 3)).alloc (.cells (madeCells #[.int .i64 0] (n*Tryz.t3.size)) 3)) rfl
 exact gw_of q5 q1 q2 q3 q4 ⟨by omega,by omega,by omega,by omega,by omega,by omega⟩
theorem gw5 (w:World) (n:Nat):Gw w (w.heap.size+1) (w.heap.size+1+1+1) (w.heap.size+1+1) n (fun _=>0) (fun _=>0) ((((w.alloc (.cells #[.slice none 0 0,.slice none 0 0] 75)).alloc (.cells #[.slice (some ⟨w.heap.size+1+1+1,0,none⟩) n n,.slice (some ⟨w.heap.size+1+1,0,none⟩) n n] 75)).alloc (.cells (madeCells #[.int .i64 0] (n*Tryz.t3.size)) 3)).alloc (.cells (madeCells #[.int .i64 0] (n*Tryz.t3.size)) 3)):=by
 obtain ⟨q1,q2,q3,q4,q5⟩:=four_new w _ _ _ _ _ _ _ _ ((((w.alloc (.cells #[.slice none 0 0,.slice none 0 0] 75)).alloc (.cells #[.slice (some ⟨w.heap.size+1+1+1,0,none⟩) n n,.slice (some ⟨w.heap.size+1+1,0,none⟩) n n] 75)).alloc (.cells (madeCells #[.int .i64 0] (n*Tryz.t3.size)) 3)).alloc (.cells (madeCells #[.int .i64 0] (n*Tryz.t3.size)) 3)) rfl
 exact gw_of q5 q1 q2 q4 q3 ⟨by omega,by omega,by omega,by omega,by omega,by omega⟩
def Pr (N:Nat→Nd) (n:Nat) (k:Int) (c:Nat) (v:Int):Prop:=(c=0→v = -2)∧(c=1→∃ t:Nat,t < n∧v=(t:Int)∧∃ i,i < (N t).q∧(N t).K i=k)∧(2≤c→v = -3)
def Dpc (PA DA:Nat→Int) (n m:Nat):Prop:=(∀ k,m≤k→k < n→0≤DA k∧DA k+(k:Int)+1≤(n:Int)∧(0≤PA k→DA k=DA (PA k).toNat+1)∧(PA k < 0→DA k=0))∧∀ k,k < m→DA k=0
def Grn (N:Nat→Nd) (n:Nat) (PA DA:Nat→Int):Prop:=PA (n - 1) = -1∧(∀ k,k+1 < n→Pr N n (k:Int) (cn N (k:Int) n) (PA k))∧Dpc PA DA n 0
theorem ck_zero {K:Nat→Int} {k:Int}:∀ i,(∀ j,j < i→K j ≠ k)→ck K k i=0
 | 0,_=>rfl
 | i+1,h=>by
  unfold ck
  rw [ck_zero i (fun j hj=>h j (by omega)),if_neg (h i (by omega))]
theorem cn_last {N:Nat→Nd} {n:Nat} (hn0 : 0 < n) (hK:∀ t,t < n→∀ i,i < (N t).q→0≤(N t).K i∧(N t).K i < (t:Int)):∀ t,t≤n→cn N ((n - 1:Nat):Int) t=0
 | 0,_=>rfl
 | t+1,h=>by
  unfold cn
  rw [cn_last hn0 hK t (by omega),ck_zero _ (fun j hj=>by have:=hK t (by omega) j hj;omega)]
theorem sp_grow {AN : Addr} {n cnn : Nat} {N : Nat → Nd} (w : World) (hn : n ≤ 1048576) (hn0 : 0 < n) (hra : ∀ i, i < n → NodeC 0 w (AN.add (i * 8)) (N i)) (hq : ∀ t, t < n → (N t).q ≤ 200) (hK : ∀ t, t < n → ∀ i, i < (N t).q → 0 ≤ (N t).K i ∧ (N t).K i < (t : Int)) :
    Calls Tryz.prog 39 #[.slice (some AN) n cnn] w fun e w'=>∃ (PA DA:Nat→Int) (gp gd:Nat),e = .returned (.agg #[.slice (some ⟨gp,0,none⟩) n n,.slice (some ⟨gd,0,none⟩) n n])∧RowV w' (.slice (some ⟨gp,0,none⟩) n n) n (fun k=>.int .i64 (PA k))∧RowV w' (.slice (some ⟨gd,0,none⟩) n n) n (fun k=>.int .i64 (DA k))∧Grn N n PA DA∧Kb 0 w w':=by
  have hnI:(n:Int)≤1048576:=by omega
  have hn0I:(0:Int) < (n:Int):=by omega
  have hmk:∀ W,_:=fun W=>run_make (P:=Tryz.prog) W 57 3 Tryz.t3 (.int .i64 0) Tryz.underlying57 (by kernel_rfl) (by kernel_rfl) .i64 .i64 (n:Int) (n:Int) (by omega) (Int.le_refl _) (by show (8:Int)*(n:Int)≤_;omega) (by omega)
  simp only [Int.toNat_natCast] at hmk
  have HB:Hid ((∀ i,i < n→NodeC 0 w (AN.add (i*8)) (N i))∧(∀ t,t < n→(N t).q≤200)∧(∀ t,t < n→∀ i,i < (N t).q→0≤(N t).K i∧(N t).K i < (t:Int))∧n≤1048576∧0 < n):=(⟨hra,hq,hK,hn,hn0⟩:_∧_)
  clear hra hq hK hn hn0
  go_enter Tryz.func39,Tryz.ntmps39
  go_upto_region 1 with fail
  go_cut [3] from 10 to 16 (fun s3 wx=>∃ (T gp gd:Nat),s3 = .pointer (some ⟨T,0,none⟩)∧Hid (Gw w T gp gd n (fun _=>0) (fun _=>0) wx))
  case first =>
    clear HB
    go_region_with fail
    all_goals
      go_wp2_with fail
      go_meet
      first | exact ⟨_,_,_,rfl,Gw.drew (gw0 w n)⟩ | exact ⟨_,_,_,rfl,Gw.drew (gw1 w n)⟩ | exact ⟨_,_,_,rfl,Gw.drew (gw2 w n)⟩ | exact ⟨_,_,_,rfl,Gw.drew (gw3 w n)⟩ | exact ⟨_,_,_,rfl,Gw.drew (gw4 w n)⟩ | exact ⟨_,_,_,rfl,Gw.drew (gw5 w n)⟩
  case rest =>
    obtain ⟨T,gp,gd,rfl,HG⟩:=hcut
    clear hmk
    have HA0:Hid (Gw w T gp gd n (fun k=>if k < 0 then -2 else 0) (fun _=>0) wc):=Gw.eqv HG (fun k _=>rfl) (fun k _=>rfl)
    clear HG
    go_wp2_with fail
    go_loopw [19] (fun s19 wr=>∃ i:Nat,s19 = .int .i64 (i:Int)∧i≤n∧Hid (Gw w T gp gd n (fun k=>if k < i then -2 else 0) (fun _=>0) wr)) (fun s19 _=>n - (intOf s19).toNat)
    case atStart=>exact ⟨0,rfl,Nat.zero_le _,HA0⟩
    case round =>
      clear HA0
      obtain ⟨i,rfl,hi,HX⟩:=hrel
      have hX:=(uh HX)
      rcases Nat.lt_or_ge i n with h | h
      · have hI:(i:Int) < (n:Int):=by omega
        have t0:=hX.t0
        have cg:=hX.p i h
        have fg:=hX.fp i
        have HN:Hid (Gw w T gp gd n (fun k=>if k < i+1 then -2 else 0) (fun _=>0) (wr.setCell ⟨gp,i,none⟩ (.int .i64 (-2)))):=hX.setP h (fun j hj=>by
          by_cases e:j=i
          · subst e;rw [if_pos rfl,if_pos (by omega)]
          · rw [if_neg e]
            by_cases e2:j < i
            · rw [if_pos e2,if_pos (by omega)]
            · rw [if_neg e2,if_neg (by omega)])
        clear HX hX HB
        go_wp2_with fail
        go_roundw
        case rel=>exact ⟨i+1,by go_num,by omega,HN⟩
        case measure=>simp [intOf];omega
      · obtain rfl:n=i:=by omega
        have hI:¬ (n:Int) < (n:Int):=by omega
        have HB0:Hid (∃ PA:Nat→Int,Gw w T gp gd n PA (fun _=>0) wr∧∀ k,k < n→Pr N n (k:Int) (cn N (k:Int) 0) (PA k)):=⟨_,hX,fun k hk=>⟨fun _=>if_pos hk,fun e=>absurd (show (0:Nat)=1 from e) (by decide),fun e=>absurd (show 2≤(0:Nat) from e) (by decide)⟩⟩
        clear HX hX h hi
        go_wp2_with fail
        go_loopw [29] (fun s29 wr=>∃ t:Nat,s29 = .int .i64 (t:Int)∧t≤n∧Hid (∃ PA:Nat→Int,Gw w T gp gd n PA (fun _=>0) wr∧∀ k,k < n→Pr N n (k:Int) (cn N (k:Int) t) (PA k))) (fun s29 _=>n - (intOf s29).toNat)
        case atStart=>exact ⟨0,rfl,Nat.zero_le _,HB0⟩
        case round =>
          clear HB0
          obtain ⟨t,rfl,ht,HX⟩:=hrel
          obtain ⟨PA,hX,hP⟩:=(uh HX)
          obtain ⟨hra,hq,hK,hn,hn0⟩:=(uh HB)
          rcases Nat.lt_or_ge t n with h | h
          · have hI2:(t:Int) < (n:Int):=by omega
            obtain ⟨vr0,vk0,cc,hvr0,hvk0⟩:=hra t h
            have c7:=hX.kb.cell cc.c7
            obtain ⟨pk,ckk,rfl,-⟩:=id hvk0
            have HROW:Hid (RowB 0 w (.slice pk (N t).q ckk) (N t).q (fun i=>.int .i64 ((N t).K i))):=hvk0
            have hqI:((N t).q:Int)≤200:=by have:=hq t h;omega
            have HI0:Hid (∃ PA:Nat→Int,Gw w T gp gd n PA (fun _=>0) wr∧∀ k,k < n→Pr N n (k:Int) (cn N (k:Int) t+ck (N t).K (k:Int) 0) (PA k)):=⟨PA,hX,hP⟩
            have HTN:Hid (t < n):=h
            clear HX hX hP hra hq hK hn hn0 cc hvr0 hvk0 h
            go_wp2_with fail
            clear c7
            go_loopw [38] (fun s38 wr=>∃ i:Nat,s38 = .int .i64 (i:Int)∧i≤(N t).q∧Hid (∃ PA:Nat→Int,Gw w T gp gd n PA (fun _=>0) wr∧∀ k,k < n→Pr N n (k:Int) (cn N (k:Int) t+ck (N t).K (k:Int) i) (PA k))) (fun s38 _=>(N t).q - (intOf s38).toNat)
            case atStart=>exact ⟨0,rfl,Nat.zero_le _,HI0⟩
            case round =>
              clear HI0
              obtain ⟨i,rfl,hi,HX⟩:=hrel
              obtain ⟨PA,hX,hP⟩:=(uh HX)
              obtain ⟨hra,hq,hK,hn,hn0⟩:=(uh HB)
              have h:=(uh HTN)
              rcases Nat.lt_or_ge i (N t).q with h2 | h2
              · have hI3:(i:Int) < ((N t).q:Int):=by omega
                obtain ⟨pk',ck2,e1,hrow2⟩:=(uh HROW).keep hX.kb
                obtain ⟨rfl,-,rfl⟩:pk=pk'∧(N t).q=(N t).q∧ckk=ck2:=by simpa using e1
                obtain ⟨b,rfl,hcb,-,hrb⟩:=hrow2 (by omega)
                have qa:wr.cell? (b.add i)=some (.int .i64 ((N t).K i)):=hrb i h2
                obtain ⟨kn,hkn⟩:=Int.eq_ofNat_of_zero_le (hK t h i h2).1
                have hknt:kn < n:=by have:=(hK t h i h2).2;omega
                have hknI:(kn:Int) < (n:Int):=by omega
                rw [hkn] at qa
                have cg:=hX.p kn hknt
                have fg:=hX.fp kn
                have t0:=hX.t0
                have oth:∀ j,j < n→j ≠ kn→ck (N t).K (j:Int) (i+1)=ck (N t).K (j:Int) i:=fun j hj e=>by
                  show ck (N t).K (j:Int) i+(if (N t).K i=(j:Int) then 1 else 0) = _
                  rw [if_neg (by omega)];rfl
                have own:ck (N t).K (kn:Int) (i+1)=ck (N t).K (kn:Int) i+1:=by
                  show ck (N t).K (kn:Int) i+(if (N t).K i=(kn:Int) then 1 else 0) = _
                  rw [if_pos hkn]
                by_cases hv:PA kn = -2
                · have hc0 : cn N (kn : Int) t + ck (N t).K (kn : Int) i = 0 := by
                    obtain ⟨p0,p1,p2⟩:=hP kn hknt
                    rcases Nat.lt_or_ge (cn N (kn:Int) t+ck (N t).K (kn:Int) i) 1 with g | g
                    · omega
                    · exfalso
                      rcases Nat.lt_or_ge 1 (cn N (kn:Int) t+ck (N t).K (kn:Int) i) with g2 | g2
                      · have:=p2 g2;omega
                      · obtain ⟨t',_,e,_⟩:=p1 (by omega);omega
                  have HN:Hid (∃ PA:Nat→Int,Gw w T gp gd n PA (fun _=>0) (wr.setCell ⟨gp,kn,none⟩ (.int .i64 (t:Int)))∧∀ k,k < n→Pr N n (k:Int) (cn N (k:Int) t+ck (N t).K (k:Int) (i+1)) (PA k)):=⟨fun j=>if j=kn then (t:Int) else PA j,hX.setP hknt (fun j _=>rfl),fun k hk=>by
                    dsimp only
                    by_cases e:k=kn
                    · subst e
                      rw [if_pos rfl,own]
                      exact ⟨fun g=>by omega,fun _=>⟨t,h,rfl,i,h2,hkn⟩,fun g=>by omega⟩
                    · rw [if_neg e,oth k hk e];exact hP k hk⟩
                  have gv:=beq1 hv
                  clear HX hX hP hra hq hK hn hn0 hrow2 hrb e1 hkn HROW h hknt oth own hc0 hv
                  generalize PA kn=pv at *
                  go_wp2_with fail
                  go_roundw
                  case rel=>exact ⟨i+1,by go_num,by omega,HN⟩
                  case measure=>simp [intOf];omega
                · have hc0 : 1 ≤ cn N (kn : Int) t + ck (N t).K (kn : Int) i := by
                    obtain ⟨p0,p1,p2⟩:=hP kn hknt
                    rcases Nat.lt_or_ge (cn N (kn:Int) t+ck (N t).K (kn:Int) i) 1 with g | g
                    · exact absurd (p0 (by omega)) hv
                    · exact g
                  have HN:Hid (∃ PA:Nat→Int,Gw w T gp gd n PA (fun _=>0) (wr.setCell ⟨gp,kn,none⟩ (.int .i64 (-3)))∧∀ k,k < n→Pr N n (k:Int) (cn N (k:Int) t+ck (N t).K (k:Int) (i+1)) (PA k)):=⟨fun j=>if j=kn then -3 else PA j,hX.setP hknt (fun j _=>rfl),fun k hk=>by
                    dsimp only
                    by_cases e:k=kn
                    · subst e
                      rw [if_pos rfl,own]
                      exact ⟨fun g=>by omega,fun g=>by omega,fun _=>rfl⟩
                    · rw [if_neg e,oth k hk e];exact hP k hk⟩
                  have gv:=bne hv
                  clear HX hX hP hra hq hK hn hn0 hrow2 hrb e1 hkn HROW h hknt oth own hc0 hv
                  generalize PA kn=pv at *
                  go_wp2_with fail
                  go_roundw
                  case rel=>exact ⟨i+1,by go_num,by omega,HN⟩
                  case measure=>simp [intOf];omega
              · obtain rfl:i=(N t).q:=by omega
                have HN:Hid (∃ PA:Nat→Int,Gw w T gp gd n PA (fun _=>0) wr∧∀ k,k < n→Pr N n (k:Int) (cn N (k:Int) (t+1)) (PA k)):=⟨PA,hX,hP⟩
                have hI3:¬ ((N t).q:Int) < ((N t).q:Int):=by omega
                clear HX hX hP hra hq hK hn hn0 HROW
                go_wp2_with fail
                go_roundw
                case rel=>exact ⟨t+1,by go_num,by omega,HN⟩
                case measure=>simp [intOf];omega
          · obtain rfl:n=t:=by omega
            have hl:=cn_last hn0 hK n (Nat.le_refl _)
            have cl:wr.cell? ⟨gp,n - 1,none⟩=some (.int .i64 (-2)):=by rw [hX.p (n - 1) (by omega),(hP (n - 1) (by omega)).1 hl]
            have fl:=hX.fp (n - 1)
            have t0:=hX.t0
            obtain ⟨PB,hPB⟩:∃ PB:Nat→Int,PB=fun j=>if j=n - 1 then -1 else PA j:=⟨_,rfl⟩
            have gB:Gw w T gp gd n PB (fun _=>0) (wr.setCell ⟨gp,n - 1,none⟩ (.int .i64 (-1))):=by rw [hPB];exact hX.setP (by omega) (fun j _=>rfl)
            have hPl:PB (n - 1) = -1:=by rw [hPB];exact if_pos rfl
            have hPo:∀ k,k+1 < n→Pr N n (k:Int) (cn N (k:Int) n) (PB k):=fun k hk=>by rw [hPB];show Pr N n _ _ (if k=n - 1 then -1 else PA k);rw [if_neg (by omega)];exact hP k (by omega)
            have hup:∀ k,k < n→0≤PB k→k < (PB k).toNat∧(PB k).toNat < n:=fun k hk h0=>by
              have hk1:k+1 < n:=by
                rcases Nat.lt_or_ge (k+1) n with g | g
                · exact g
                · have:k=n - 1:=by omega
                  rw [this,hPl] at h0;omega
              obtain ⟨p0,p1,p2⟩:=hPo k hk1
              rcases Nat.lt_trichotomy (cn N (k:Int) n) 1 with g | g | g
              · have:=p0 (by omega);omega
              · obtain ⟨t',ht',e,i,hi,hki⟩:=p1 g
                have:=hK t' ht' i hi
                omega
              · have:=p2 g;omega
            have HC0:Hid (∃ DA:Nat→Int,Gw w T gp gd n PB DA (wr.setCell ⟨gp,n - 1,none⟩ (.int .i64 (-1)))∧Dpc PB DA n (n - 1)):=⟨_,gB,fun k h1 h2=>by
              obtain rfl:k=n - 1:=by omega
              exact ⟨Int.le_refl _,by show (0:Int)+((n - 1:Nat):Int)+1≤(n:Int);omega,fun g=>by omega,fun _=>rfl⟩,fun k _=>rfl⟩
            have HPB:Hid (PB (n - 1) = -1∧(∀ k,k+1 < n→Pr N n (k:Int) (cn N (k:Int) n) (PB k))∧∀ k,k < n→0≤PB k→k < (PB k).toNat∧(PB k).toNat < n):=(⟨hPl,hPo,hup⟩:_∧_)
            have hl0:(0:Int)≤(n:Int) - 1:=by omega
            clear HX hX hP hra hq hK hl gB hPl hPo hup hPB h ht HB
            go_wp2_with fail
            clear cl fl t0
            go_loopw [9] (fun s9 wr=>∃ m:Nat,s9 = .int .i64 ((m:Int) - 1)∧m < n∧Hid (∃ DA:Nat→Int,Gw w T gp gd n PB DA wr∧Dpc PB DA n m)) (fun s9 _=>(intOf s9+1).toNat)
            case atStart=>exact ⟨n - 1,by go_num,by omega,HC0⟩
            case round =>
              clear HC0
              obtain ⟨m,rfl,hm,HX⟩:=hrel
              obtain ⟨DA,hX,hD⟩:=(uh HX)
              obtain ⟨hPl,hPo,hup⟩:=(uh HPB)
              rcases m with _ | m
              · have HF:Hid (Grn N n PB DA∧Gw w T gp gd n PB DA wr):=(⟨⟨hPl,hPo,hD⟩,hX⟩:_∧_)
                have t0:=hX.t0
                have t1:=hX.t1
                have r0:=hX.r0
                have r1:=hX.r1
                have fr:=hX.fr
                clear HX hX hD hPl hPo hup HPB
                rw [show ((0:Nat):Int) - 1 = -1 from rfl]
                go_wp2_with fail
                refine bodyPost_ret (by simp [results,Tryz.results39,go_sem,r0,r1];rfl) rfl ?_
                obtain ⟨hG,hX⟩:=(uh HF)
                obtain ⟨n1,n2,n3,n4,n5,n6⟩:=hX.ne
                refine ⟨PB,DA,gp,gd,rfl,⟨_,_,rfl,fun _=>⟨_,rfl,Nat.le_refl _,fun k hk=>?_⟩⟩,⟨_,_,rfl,fun _=>⟨_,rfl,Nat.le_refl _,fun k hk=>?_⟩⟩,hG,(hX.kb.setCell ⟨w.heap.size,0,none⟩ (Or.inr (Nat.le_refl _)) _).setCell ⟨w.heap.size,1,none⟩ (Or.inr (Nat.le_refl _)) _⟩
                · rw [addr0,set_far _ _ _ _ _ _ (by omega),set_far _ _ _ _ _ _ (by omega)];exact hX.p k hk
                · rw [addr0,set_far _ _ _ _ _ _ (by omega),set_far _ _ _ _ _ _ (by omega)];exact hX.d k hk
              · have hmn:m < n:=by omega
                have hmI:(m:Int) < (n:Int):=by omega
                rw [show ((m+1:Nat):Int) - 1=(m:Int) by omega]
                have t0:=hX.t0
                have t1:=hX.t1
                have cp:=hX.p m hmn
                have cd:wr.cell? ⟨gd,m,none⟩=some (.int .i64 0):=by rw [hX.d m hmn,hD.2 m (by omega)]
                have fd:=hX.fd m
                by_cases hp0 : 0≤PB m
                · obtain ⟨u1,u2⟩:=hup m hmn hp0
                  obtain ⟨par,hpar⟩:=Int.eq_ofNat_of_zero_le hp0
                  rw [hpar,Int.toNat_natCast] at u1 u2
                  rw [hpar] at cp
                  obtain ⟨x,hx⟩:∃ x,x=DA par:=⟨_,rfl⟩
                  have cx:wr.cell? ⟨gd,par,none⟩=some (.int .i64 x):=by rw [hx];exact hX.d par u2
                  obtain ⟨y1,y2,y3,y4⟩:=hD.1 par (by omega) u2
                  rw [← hx] at y1 y2
                  have hpI:(par:Int) < (n:Int):=by omega
                  have hx1:x≤1048576:=by omega
                  have HN:Hid (∀ W,W=(wr.setCell ⟨gd,m,none⟩ (.int .i64 (x+1))).drew→∃ DA:Nat→Int,Gw w T gp gd n PB DA W∧Dpc PB DA n m):=(fun W hW=>by
                    refine ⟨fun j=>if j=m then x+1 else DA j,by rw [hW];exact (hX.setD hmn (fun j _=>rfl)).drew,fun k h1 h2=>?_,fun k hk=>?_⟩
                    · dsimp only
                      by_cases e:k=m
                      · subst e
                        rw [if_pos rfl,hpar,Int.toNat_natCast,if_neg (by omega),← hx]
                        exact ⟨by omega,by omega,fun _=>rfl,fun g=>by omega⟩
                      · rw [if_neg e]
                        obtain ⟨z1,z2,z3,z4⟩:=hD.1 k (by omega) h2
                        refine ⟨z1,z2,fun g=>?_,z4⟩
                        have:=hup k h2 g
                        rw [if_neg (by omega)]
                        exact z3 g
                    · dsimp only
                      rw [if_neg (by omega)]
                      exact hD.2 k (by omega):∀ W,_)
                  have s1:wr.cell? ⟨T,1,none⟩=some (.slice (some ⟨gd,0,none⟩) n n)∧wr.cell? ⟨T,0,none⟩=some (.slice (some ⟨gp,0,none⟩) n n)∧wr.cell? ⟨gp,m,none⟩=some (.int .i64 (par:Int))∧wr.cell? ⟨gd,par,none⟩=some (.int .i64 x):=⟨t1,t0,cp,cx⟩
                  have HS2:Hid (∀ v,(wr.setCell ⟨gd,m,none⟩ v).cell? ⟨T,1,none⟩=some (.slice (some ⟨gd,0,none⟩) n n)∧(wr.setCell ⟨gd,m,none⟩ v).cell? ⟨T,0,none⟩=some (.slice (some ⟨gp,0,none⟩) n n)∧(wr.setCell ⟨gd,m,none⟩ v).cell? ⟨gp,m,none⟩=some (.int .i64 (par:Int))∧(wr.setCell ⟨gd,m,none⟩ v).cell? ⟨gd,par,none⟩=some (.int .i64 x)):=(fun v=>by
                    obtain ⟨n1,n2,n3,n4,n5,n6⟩:=hX.ne
                    exact ⟨(set_far _ _ _ _ _ _ n6).trans t1,(set_far _ _ _ _ _ _ n6).trans t0,(set_far _ _ _ _ _ _ n4).trans cp,(set_ne _ _ _ _ _ (by omega)).trans cx⟩:∀ v,_)
                  clear HX hX hD hPl hPo hup y2 y3 y4 hx hpar hp0 u1 u2 HPB
                  go_wp2_with fail
                  go_region_held_law (fun W'=>W'.cell? ⟨T,1,none⟩=some (.slice (some ⟨gd,0,none⟩) n n)∧W'.cell? ⟨T,0,none⟩=some (.slice (some ⟨gp,0,none⟩) n n)∧W'.cell? ⟨gp,m,none⟩=some (.int .i64 (par:Int))∧W'.cell? ⟨gd,par,none⟩=some (.int .i64 x)) (first | exact s1 | exact (uh HS2) _) (fail)
                  go_wp2_with fail
                  go_roundw
                  case rel=>exact ⟨m,by go_num,by omega,(uh HN) _ rfl⟩
                  case measure=>first | (simp [intOf];done) | (simp [intOf];omega)
                · have gp0:¬ 0≤PB m:=hp0
                  have HN:Hid (∃ DA:Nat→Int,Gw w T gp gd n PB DA wr∧Dpc PB DA n m):=⟨DA,hX,fun k h1 h2=>by
                    by_cases e:k=m
                    · subst e
                      have z:=hD.2 k (by omega)
                      exact ⟨by omega,by omega,fun g=>absurd g hp0,fun _=>z⟩
                    · exact hD.1 k (by omega) h2,fun k hk=>hD.2 k (by omega)⟩
                  clear HX hX hD hPl hPo hup hp0 HPB
                  generalize PB m=pv at *
                  go_wp2_with fail
                  go_roundw
                  case rel=>exact ⟨m,by go_num,by omega,HN⟩
                  case measure=>first | (simp [intOf];done) | (simp [intOf];omega)
end Go.Proofs.YtfpidccjcemcjaaGreat.Fo
