import Derived.Test.YtnmeemjoodoalaaGreatDoorNExy
import Derived.Test.YtnmeemjoodoalaaGreatDoorNEpl
import Derived.Test.YtnmeemjoodoalaaGreatDoorNEai
import Derived.Test.YtnmeemjoodoalaaGreatDoorNEbb
set_option maxHeartbeats 16000000
namespace Go.Proofs.YtnmeemjoodoalaaGreatDoor.Fo
open Go.ChangeShapes Go.WideShapes Go.ChangeAt Go.RowKit
set_option linter.unusedVariables false
set_option maxRecDepth 100000
theorem OwnQ.hi {lo hi hi' : Nat} {w : World} {q : Rp} {vu vc vn vd : Value} (h : OwnQ lo hi w q vu vc vn vd) (hh : hi ≤ hi') : OwnQ lo hi' w q vu vc vn vd:=by
  obtain ⟨s1,s2,s3,h1,h2,h3,h4,h5,h6,h7,h8⟩:=h
  exact ⟨s1,s2,s3,h1,h2,h3,by omega,h5,h6,h7,h8.1,fun g e=>by have:=h8.2 g e;omega⟩
structure MPs (b : Nat) (a : Addr) (c : Nat) (M : List UInt8) (kc : Nat) (h : Nat) (w0 : World) (cnt : Nat) (L : List PV) (k' : Nat) (bad' : Bool) (v : Value) (w : World) : Prop where
  rd : RD b a c M k' bad' w
  le : kc ≤ k'
  kb : Kbh b h w0 w
  bh : w.heap[h]? = some (.cells #[v] 30 (0,0))
  row : w.ownsRow w0.heap.size 50 9 v L.length (L.flatMap pvc)
  own : OwnL w0.heap.size w L v.ownBlock
  tt : ∀ z,z ∈ L → Rt z.1
  mo : L.length ≤ cnt
  gt : bad' = false → kc + smN L ≤ k'
  ex : LJ pe Rok M 3 false M.length (cnt : Int) (L.map (·.1)) k' bad'
  hb : b < w0.heap.size
  ha : a.block < w0.heap.size
  hh : h < w0.heap.size
  bn : h ≠ b
  an : h ≠ a.block
theorem MPs.blk {b : Nat} {a : Addr} {c : Nat} {M : List UInt8} {kc : Nat} {h : Nat} {w0 : World} {cnt : Nat} {L : List PV} {k' : Nat} {bad' : Bool} {v : Value} {wr : World} (s : MPs b a c M kc h w0 cnt L k' bad' v wr) {w1 w3 : World} {o : Obj} (h3 : Kx b wr w1) (h9 : (w1.alloc o).grownBy w3 v.ownBlock) : w3.heap[h]? = some (.cells #[v] 30 (0,0)):=by
  have hh:=s.hh
  have hz0:=s.kb.size
  have hz1:=h3.size
  exact (((h9.block h (by rw [World.size_alloc];omega) (fun e=>by have:=(s.row.lt h e.symm).1;omega)).trans ((kb_alloc 0 w1 o).block h (Nat.zero_le _) (by omega))).trans (h3.block h (by omega) s.bn)).trans s.bh
theorem MPs.step {b : Nat} {a : Addr} {c : Nat} {M : List UInt8} {kc : Nat} {h : Nat} {w0 : World} {cnt : Nat} {L : List PV} {k' : Nat} {bad' : Bool} {v : Value} {wr : World} (s : MPs b a c M kc h w0 cnt L k' bad' v wr) (hl : bad' = false) (hc : L.length < cnt)
    {w1 : World} {q : Rp} {vu vc vn vd : Value} {k2 : Nat} {bad2 : Bool} (h1 : RD b a c M k2 bad2 w1) (h2 : k' ≤ k2) (h3 : Kx b wr w1) (hq : OwnQ wr.heap.size w1.heap.size w1 q vu vc vn vd) (h4 : Rt q) (h5 : bad2 = false → k' + q.N.length < k2) (h7 : ∀ y rest,bad' = false → Rok y → M.drop k' = pe y ++ rest → q = y ∧ k2 = k' + (pe y).length ∧ bad2 = false)
    {o : Obj} {g' n' c' : Nat} {w3 : World} (h8 : w3.ownsRow w0.heap.size 50 9 (.slice (some ⟨g',0,none⟩) n' c') (L.length + 1) (L.flatMap pvc ++ pvc (q,vu,vc,vn,vd))) (h9 : (w1.alloc o).grownBy w3 v.ownBlock) (h10 : v.ownBlock = some g' ∨ g' = w1.heap.size + 1) : MPs b a c M kc h w0 cnt (L ++ [(q,vu,vc,vn,vd)]) k2 bad2 (.slice (some ⟨g',0,none⟩) n' c') (w3.setCell ⟨h,0,none⟩ (.slice (some ⟨g',0,none⟩) n' c')):=by
  have hg : ∀ g,v.ownBlock = some g → w0.heap.size ≤ g:=fun g e=>(s.row.lt g e).1
  have hgn : ∀ i,i < w0.heap.size → some i ≠ v.ownBlock:=fun i hi e=>by have:=hg i e.symm;omega
  have hb:=s.hb
  have ha:=s.ha
  have hh:=s.hh
  have bn:=s.bn
  have an:=s.an
  have hz0:=s.kb.size
  have hz1:=h3.size
  have zk : Kz h w3 (w3.setCell ⟨h,0,none⟩ (.slice (some ⟨g',0,none⟩) n' c')):=(Kz.refl h w3).set 0 _
  have e1 : ∀ i,i < w0.heap.size → w3.heap[i]? = w1.heap[i]?:=fun i hi=>(h9.block i (by rw [World.size_alloc];omega) (hgn i hi)).trans ((kb_alloc 0 w1 o).block i (Nat.zero_le _) (by omega))
  refine ⟨h1.far ((zk.block b (by omega)).trans (e1 b hb)) ((zk.block _ (by omega)).trans (e1 _ ha)),Nat.le_trans s.le h2,?_,?_,?_,?_,?_,?_,?_,?_,hb,ha,hh,bn,an⟩
  · exact (((s.kb.trans h3.bh).trans (Kx.of_kb (b:=b) (kb_alloc 0 w1 o)).bh).gr h9 hg).set 0 _
  · rw [set_known _ (s.blk h3 h9)]
    rfl
  · rw [List.length_append,List.flatMap_append]
    have h8' : (w3.setCell ⟨h,0,none⟩ (.slice (some ⟨g',0,none⟩) n' c')).ownsRow w0.heap.size 50 9 (.slice (some ⟨g',0,none⟩) n' c') (L.length + 1) (L.flatMap pvc ++ pvc (q,vu,vc,vn,vd)):=rowBlk' h8 (fun g e=>zk.block g (by have:=(h8.lt g e).1;omega))
    simpa using h8'
  · have:=s.own.step h3 hb s.kb.size (fun g e=>(s.row.lt g e).2) hq h9 h10
    exact this.mono (Nat.le_refl _) (by rw [zk.size];exact Nat.le_refl _) (fun g h1 _=>zk.block g (by omega))
  · intro y hy
    rcases List.mem_append.1 hy with hy | hy
    · exact s.tt y hy
    · rw [List.mem_singleton.1 hy];exact h4
  · rw [List.length_append,List.length_singleton]
    omega
  · intro e
    have:=s.gt hl
    have:=h5 e
    rw [smN_app]
    show kc + (smN L + q.N.length) ≤ k2
    omega
  · rw [List.map_append]
    exact s.ex.step (by rw [List.length_map];omega) h7
def DecM (M : List UInt8) (W : World) (e : Ending) (w' : World) : Prop:=∃ v L,e = .returned (.agg #[v]) ∧ RowP 0 w' v L.length (QF L) ∧ (∀ q,q ∈ L → Rt q) ∧ L.length ≤ 1000000 ∧ DecR M L ∧ Kb 0 W w'
theorem decm_nil {M : List UInt8} {W w' : World} (h : DecR M []) (k : Kb 0 W w') : DecM M W (.returned (.agg #[.slice none 0 0])) w' :=
  ⟨_,[],rfl,⟨none,0,rfl,fun h=>(Nat.lt_irrefl _ h).elim⟩,fun z hz=>(nomatch hz),Nat.zero_le _,h,k⟩
theorem pm_readM {M : List UInt8} {L L' : List Rp} {k' : Nat} {l' : Bool} (hx : LX pe Rok M 3 false M.length L k' l') (ht : ∀ q,q ∈ L' → Rt q) (h : PMi M L') : L = L' ∧ l' = false:=by
  obtain ⟨⟨f,n,ha⟩,h2,h3⟩:=h
  obtain ⟨r1,r2⟩:=rok_of ht ha
  have e : M.drop 3 = ls pe L' ++ []:=by rw [← h2,List.append_nil];rfl
  obtain ⟨q1,q2,q3⟩:=hx L' [] rfl r1 (ls_len pe_pos e) e
  exact ⟨q1,q3⟩
theorem sp_dec2 {p : Option Addr} {c : Nat} {M : List UInt8} {W : World} (ha : Arg p c M W) (hM : M.length ≤ 1048576) :
    Calls Tryz.prog 14 #[.slice p M.length c] W (DecM M W):=by
  have hMI : (M.length : Int) ≤ 1048576:=by omega
  by_cases hlong : M.length < 3 ∨ 1000000 < M.length
  · have HD : Hid (∀ w',Kb 0 W w' → DecM M W (.returned (.agg #[.slice none 0 0])) w'):=(fun w' k=>decm_nil (decr_no (fun L' _ h=>by have:=h.2.2;have:=pm_three h;omega)) k : ∀ w',_)
    have bg : (W.alloc (.cells #[.slice none 0 0] 30)).heap[W.heap.size]? = some (.cells #[.slice none 0 0] 30 (0,0)):=alloc_new _ _ _
    have d0 : (W.alloc (.cells #[.slice none 0 0] 30)).cell? ⟨W.heap.size,0,none⟩ = some (.slice none 0 0):=cell_of bg rfl
    have df : (W.alloc (.cells #[.slice none 0 0] 30)).frozen? ⟨W.heap.size,0,none⟩ = false:=frozen_of bg
    clear ha hM bg
    rcases Nat.lt_or_ge M.length 3 with h3 | h3
    · have hl : (M.length : Int) < 3:=by omega
      clear hlong h3
      go_enter Tryz.func14,Tryz.ntmps14
      go_wp2_with fail
      refine bodyPost_ret (by simp [results,Tryz.results14,go_sem,d0];rfl) rfl ?_
      exact (show ∀ w',Kb 0 W w' → DecM M W (.returned (.agg #[.slice none 0 0])) w' from HD) _ (kb_alloc 0 W _)
    · have hl : ¬ (M.length : Int) < 3:=by omega
      have hl2 : (1000000 : Int) < (M.length : Int):=by omega
      clear hlong h3
      go_enter Tryz.func14,Tryz.ntmps14
      go_wp2_with fail
      refine bodyPost_ret (by simp [results,Tryz.results14,go_sem,d0];rfl) rfl ?_
      exact (show ∀ w',Kb 0 W w' → DecM M W (.returned (.agg #[.slice none 0 0])) w' from HD) _ (kb_alloc 0 W _)
  · have hl : ¬ (M.length : Int) < 3:=by omega
    have hl2 : ¬ (1000000 : Int) < (M.length : Int):=by omega
    obtain ⟨a,rfl,ha2⟩:=ha.row (by omega)
    obtain ⟨b,hb⟩ : ∃ b,b = W.heap.size + 1:=⟨_,rfl⟩
    obtain ⟨h,hh⟩ : ∃ h,h = W.heap.size + 2:=⟨_,rfl⟩
    obtain ⟨g,hg⟩ : ∃ g,g = W.heap.size:=⟨_,rfl⟩
    obtain ⟨w2,hw2⟩ : ∃ w2,w2 = (W.alloc (.cells #[.slice none 0 0] 30)).alloc (.cells #[.slice (some a) M.length c,.int .i64 3,.bool false] 65):=⟨_,rfl⟩
    obtain ⟨w3,hw3⟩ : ∃ w3,w3 = w2.alloc (.cells #[.slice none 0 0] 30):=⟨_,rfl⟩
    obtain ⟨b1,b2,hz2,k2⟩:=two_newE W #[.slice none 0 0] #[.slice (some a) M.length c,.int .i64 3,.bool false] 30 65 w2 hw2
    rw [← hb] at b2
    have k3 : Kb 0 w2 w3:=by rw [hw3];exact kb_alloc 0 w2 _
    have b3 : w3.heap[h]? = some (.cells #[.slice none 0 0] 30 (0,0)):=by rw [hh,hw3,← hz2];exact alloc_new _ _ _
    have hz3 : w3.heap.size = W.heap.size + 3:=by rw [hw3,World.size_alloc,hz2]
    have hal : a.block < W.heap.size:=by have:=lt_of_cell' (ha2 0 _ (List.getElem?_eq_getElem (by omega)));rw [add_block] at this;exact this
    have r3 : RD b a c M 3 false w3:=by
      refine ⟨(k3.block b (Nat.zero_le _) (by omega)).trans b2,by omega,by omega,ha.cap,by omega,fun i x hx=>(k2.trans k3).cell (ha2 i x hx)⟩
    have bg3 : w3.heap[g]? = some (.cells #[.slice none 0 0] 30 (0,0)):=by rw [hg];exact (k3.block _ (Nat.zero_le _) (by omega)).trans b1
    have HB:=rd_count r3
    have HW : Hid (w2 = (W.alloc (.cells #[.slice none 0 0] 30)).alloc (.cells #[.slice (some a) M.length c,.int .i64 3,.bool false] 65) ∧ w3 = w2.alloc (.cells #[.slice none 0 0] 30) ∧ b = W.heap.size + 1 ∧ h = W.heap.size + 2 ∧ g = W.heap.size):=(⟨hw2,hw3,hb,hh,hg⟩ : _ ∧ _)
    have HK : Hid (Kb 0 W w3 ∧ w3.heap.size = W.heap.size + 3 ∧ w3.heap[g]? = some (.cells #[.slice none 0 0] 30 (0,0)) ∧ w3.heap[h]? = some (.cells #[.slice none 0 0] 30 (0,0)) ∧ a.block < W.heap.size ∧ Arg (some a) c M W ∧ 3 ≤ M.length ∧ M.length ≤ 1000000):=(⟨k2.trans k3,hz3,bg3,b3,hal,ha,by omega,by omega⟩ : _ ∧ _)
    have hM1 : M.length ≤ 1000000:=by omega
    clear ha ha2 hM hlong b1 b2 b3 hz2 hz3 k2 k3 r3 bg3 hal hw2 hw3 hb hh hg
    go_enter Tryz.func14,Tryz.ntmps14
    go_upto_region 5 with fail
    first | rw [← (show _ ∧ _ ∧ _ ∧ _ ∧ _ from HW).1,← (show _ ∧ _ ∧ _ ∧ _ ∧ _ from HW).2.1] | fail "worlds"
    rw [← (show _ ∧ _ ∧ _ ∧ _ ∧ _ from HW).2.2.1]
    rw [show b + 1 = h by have:=(show _ ∧ _ ∧ _ ∧ _ ∧ _ from HW).2.2.1;have:=(show _ ∧ _ ∧ _ ∧ _ ∧ _ from HW).2.2.2.1;omega]
    rw [← (show _ ∧ _ ∧ _ ∧ _ ∧ _ from HW).2.2.2.2]
    go_upto_block 0 with (go_at_call 29;refine HB.mono ?_;rintro e w0 ⟨va,kc,bc,rfl,y1,y2,y3,cnt,rfl,y4,y5,y6⟩)
    obtain ⟨kW3,hz3,bg3,b3,hal,harg,h3,hM9⟩:=(show _ ∧ _ ∧ _ ∧ _ ∧ _ ∧ _ ∧ _ ∧ _ from HK)
    obtain ⟨e1,e2,e3,e4,e5⟩:=(show _ ∧ _ ∧ _ ∧ _ ∧ _ from HW)
    have hz0 : w0.heap.size = W.heap.size + 3:=y3.size.trans hz3
    have HM : Hid (MPs b a c M kc h w0 cnt [] kc bc (.slice none 0 0) w0):=(⟨y1,Nat.le_refl _,Kbh.refl _ _ _,(y3.block h (by omega)).trans b3,World.ownsRow_nil _ _ _ _,ownl_nil _ _ _,fun x hx=>(nomatch hx),Nat.zero_le _,fun _=>Nat.le_refl _,LJ.zeroM pe_pos (by omega) y6,by omega,by omega,by omega,by omega,by omega⟩ : MPs b a c M kc h w0 cnt [] kc bc (.slice none 0 0) w0)
    have HG : Hid (w0.heap[g]? = some (.cells #[.slice none 0 0] 30 (0,0)) ∧ Kx b w3 w0 ∧ w0.heap.size = W.heap.size + 3 ∧ 3 ≤ kc):=(⟨(y3.block g (by omega)).trans bg3,y3.ks,hz0,y2⟩ : _ ∧ _)
    have hcnt : (cnt : Int) ≤ 1000000:=by omega
    clear HB y1 y2 y3 y4 y5 y6 kW3 hz3 bg3 b3 hal harg h3 hM9 e1 e2 e3 e4 e5 hz0
    go_cut [] from 53 to 53 (fun wx=>∃ (L : List PV) (kk : Nat) (bb : Bool) (v : Value),Hid (MPs b a c M kc h w0 cnt L kk bb v wx ∧ LX pe Rok M 3 false M.length (L.map (·.1)) kk bb))
    case first =>
      clear HK HG HW
      go_wp2_with fail
      go_loopw [5] (fun s wr=>∃ (L : List PV) (kk : Nat) (bb : Bool) (v : Value),s = .int .i64 ((cnt : Int) - (L.length : Int)) ∧ Hid (MPs b a c M kc h w0 cnt L kk bb v wr)) (fun s _=>(intOf s).toNat)
      case atStart=>exact ⟨[],kc,bc,_,by simp,HM⟩
      case round =>
        clear HM
        obtain ⟨L,kk,bb,v,rfl,HR⟩:=hrel
        have hR:=(show MPs b a c M kc h w0 cnt L kk bb v wr from HR)
        obtain ⟨ad,cap,rfl⟩:=own_shape hR.row
        clear HR
        have c2 : wr.cell? ⟨b,2,none⟩ = some (.bool bb):=cell_of hR.rd.blk rfl
        have hmo:=hR.mo
        by_cases hgo : L.length < cnt ∧ bb = false
        · obtain ⟨hgo,rfl⟩:=hgo
          have hgI : (0 : Int) < (cnt : Int) - (L.length : Int):=by omega
          have hLI : (L.length : Int) ≤ 1000000:=by omega
          have hbz:=hR.hb
          have haz:=hR.ha
          have hwz:=hR.kb.size
          have HC:=rd_proto hR.rd (by omega)
          have HST : Hid (MPs b a c M kc h w0 cnt L kk false (.slice ad L.length cap) wr):=hR
          clear hR
          go_upto_region 9 with (go_at_call 30;refine HC.mono ?_;rintro e w1 ⟨q,vu,vc,vn,vd,k2,b2,rfl,y1,y2,y3,yo,y4,y5,y6,y7⟩;obtain ⟨⟨au,nu,cu,rfl⟩,⟨ac,nc,cc,rfl⟩,⟨an,nn,cn,rfl⟩,⟨ad2,nd,cd,rfl⟩⟩:=ownq_shapes yo;unfold qv)
          obtain ⟨w2e,hw2e⟩ : ∃ w2e,w2e = w1.alloc (.cells #[.string q.x,.int .i64 q.l,.int .i64 q.m,.bool q.r,.int .i64 q.g,.slice au nu cu,.slice ac nc cc,.slice an nn cn,.slice ad2 nd cd] 50):=⟨_,rfl⟩
          obtain ⟨u,hu⟩ : ∃ u,u = w1.heap.size:=⟨_,rfl⟩
          have kw : Kb 0 w1 w2e:=by rw [hw2e];exact kb_alloc 0 w1 _
          have bu : w2e.heap[u]? = some (.cells #[.string q.x,.int .i64 q.l,.int .i64 q.m,.bool q.r,.int .i64 q.g,.slice au nu cu,.slice ac nc cc,.slice an nn cn,.slice ad2 nd cd] 50 (0,0)):=by rw [hw2e,hu];exact alloc_new _ _ _
          rw [← hw2e,← hu]
          have hz1:=y3.size
          have hz2:=kw.size
          have Y1:=y1.kb kw
          have Y3:=y3.trans (Kx.of_kb kw)
          have YO : OwnQ wr.heap.size w2e.heap.size w2e q (.slice au nu cu) (.slice ac nc cc) (.slice an nn cn) (.slice ad2 nd cd):=(yo.blk (fun g _ hg=>kw.block g (Nat.zero_le _) hg)).hi hz2
          have d5 : w2e.cell? ⟨h,0,none⟩ = some (.slice ad L.length cap):=cell_of ((Y3.block h (by have:=(show MPs b a c M kc h w0 cnt L kk false _ wr from HST).hh;omega) (show MPs b a c M kc h w0 cnt L kk false _ wr from HST).bn).trans (show MPs b a c M kc h w0 cnt L kk false _ wr from HST).bh) rfl
          have f0 : w2e.cell? ⟨u,0,none⟩ = some (.string q.x):=cell_of bu rfl
          have f1 : w2e.cell? ⟨u,1,none⟩ = some (.int .i64 q.l):=cell_of bu rfl
          have f2 : w2e.cell? ⟨u,2,none⟩ = some (.int .i64 q.m):=cell_of bu rfl
          have f3 : w2e.cell? ⟨u,3,none⟩ = some (.bool q.r):=cell_of bu rfl
          have f4 : w2e.cell? ⟨u,4,none⟩ = some (.int .i64 q.g):=cell_of bu rfl
          have f5 : w2e.cell? ⟨u,5,none⟩ = some (.slice au nu cu):=cell_of bu rfl
          have f6 : w2e.cell? ⟨u,6,none⟩ = some (.slice ac nc cc):=cell_of bu rfl
          have f7 : w2e.cell? ⟨u,7,none⟩ = some (.slice an nn cn):=cell_of bu rfl
          have f8 : w2e.cell? ⟨u,8,none⟩ = some (.slice ad2 nd cd):=cell_of bu rfl
          clear bu hw2e hu kw y1 y3 yo HC
          have hown:=Kx.row (W:=W) (Kx.of_kb (b:=b) (kb_alloc 0 w2e (.cells #[.string q.x,.int .i64 q.l,.int .i64 q.m,.bool q.r,.int .i64 q.g,.slice au nu cu,.slice ac nc cc,.slice an nn cn,.slice ad2 nd cd] 50))) (Kx.row (W:=W) Y3 (show MPs b a c M kc h w0 cnt L kk false (.slice ad L.length cap) wr from HST).row hbz) hbz
          have hqc:=qr_cells w2e #[.string q.x,.int .i64 q.l,.int .i64 q.m,.bool q.r,.int .i64 q.g,.slice au nu cu,.slice ac nc cc,.slice an nn cn,.slice ad2 nd cd] 50 [.string q.x,.int .i64 q.l,.int .i64 q.m,.bool q.r,.int .i64 q.g,.slice au nu cu,.slice ac nc cc,.slice an nn cn,.slice ad2 nd cd] rfl
          have h1c : ∀ u ∈ ([.string q.x,.int .i64 q.l,.int .i64 q.m,.bool q.r,.int .i64 q.g,.slice au nu cu,.slice ac nc cc,.slice an nn cn,.slice ad2 nd cd] : List Value),u.oneCell' = true:=by intro u hu;simp at hu;rcases hu with rfl | rfl | rfl | rfl | rfl | rfl | rfl | rfl | rfl <;> rfl
          have HSTP : Hid (∀ (g' c' : Nat) (w3 : World),w3.ownsRow w0.heap.size 50 9 (.slice (some ⟨g',0,none⟩) (L.length + 1) c') (L.length + 1) (L.flatMap pvc ++ [.string q.x,.int .i64 q.l,.int .i64 q.m,.bool q.r,.int .i64 q.g,.slice au nu cu,.slice ac nc cc,.slice an nn cn,.slice ad2 nd cd]) → (w2e.alloc (.cells #[.string q.x,.int .i64 q.l,.int .i64 q.m,.bool q.r,.int .i64 q.g,.slice au nu cu,.slice ac nc cc,.slice an nn cn,.slice ad2 nd cd] 50)).grownBy w3 (Value.slice ad L.length cap).ownBlock → ((Value.slice ad L.length cap).ownBlock = some g' ∨ g' = w2e.heap.size + 1) → MPs b a c M kc h w0 cnt (L ++ [(q,.slice au nu cu,.slice ac nc cc,.slice an nn cn,.slice ad2 nd cd)]) k2 b2 (.slice (some ⟨g',0,none⟩) (L.length + 1) c') (w3.setCell ⟨h,0,none⟩ (.slice (some ⟨g',0,none⟩) (L.length + 1) c')) ∧ w3.heap[h]? = some (.cells #[.slice ad L.length cap] 30 (0,0))):=(fun g' c' w3 h1 h2 h4=>⟨(show MPs b a c M kc h w0 cnt L kk false (.slice ad L.length cap) wr from HST).step rfl hgo Y1 y2 Y3 YO y4 y5 (fun y rest _=>y7 y rest trivial) h1 h2 h4,(show MPs b a c M kc h w0 cnt L kk false (.slice ad L.length cap) wr from HST).blk Y3 h2⟩ : ∀ (g' c' : Nat) (w3 : World),_)
          obtain ⟨i0,hi0,hz0,hzs,hzb⟩:=info_parts infoProto
          have HI0 : Hid (Tryz.prog.info? 50 = some i0):=hi0
          clear hi0 Y1 y2 Y3 YO y4 y5 y6 y7 HST c2
          go_wp2_with (at_builtin;refine wpList_append_lies _ rfl (.tmp 35) (.tmp 37) 28 rfl w0.heap.size 50 i0 (.agg #[.string ⟨#[]⟩,.int .i64 0,.int .i64 0,.bool false,.int .i64 0,.slice none 0 0,.slice none 0 0,.slice none 0 0,.slice none 0 0]) 9 144 Tryz.underlying28 HI0 hz0 hzs hzb rfl (by decide) _ _ _ rfl hown ⟨w2e.heap.size,0,none⟩ 1 1 [.string q.x,.int .i64 q.l,.int .i64 q.m,.bool q.r,.int .i64 q.g,.slice au nu cu,.slice ac nc cc,.slice an nn cn,.slice ad2 nd cd] rfl rfl hqc h1c (by decide) (by unfold maxLen;omega) (by omega) (by simp;omega) (w2e.heap.size + 1) (by simp) ?_;intro g' cap' w3 hown3 hgr3 hl3 _;obtain ⟨HN,hbb⟩:=(show ∀ (g' c' : Nat) (w3 : World),_ from HSTP) _ _ _ hown3 hgr3 hl3;have t1 : w3.cell? ⟨h,0,none⟩ = some (.slice ad L.length cap):=cell_of hbb rfl;have t2 : w3.frozen? ⟨h,0,none⟩ = false:=frozen_of hbb;have HN2 : Hid (MPs b a c M kc h w0 cnt (L ++ [(q,.slice au nu cu,.slice ac nc cc,.slice an nn cn,.slice ad2 nd cd)]) k2 b2 (.slice (some ⟨g',0,none⟩) (L.length + 1) cap') (w3.setCell ⟨h,0,none⟩ (.slice (some ⟨g',0,none⟩) (L.length + 1) cap'))):=HN;clear HN hbb hown3 hgr3 hl3 hown hqc h1c HSTP)
          go_roundw
          case rel=>exact ⟨L ++ [(q,.slice au nu cu,.slice ac nc cc,.slice an nn cn,.slice ad2 nd cd)],k2,b2,_,by rw [List.length_append,List.length_singleton];go_num,HN2⟩
          case measure=>simp [intOf];omega
        · have hX2 : ∃ (L : List PV) (kk : Nat) (bb : Bool) (v : Value),Hid (MPs b a c M kc h w0 cnt L kk bb v wr ∧ LX pe Rok M 3 false M.length (L.map (·.1)) kk bb):=⟨L,kk,bb,_,(⟨hR,hR.ex.done (fun e=>hgo ⟨by have:=e.1;rw [List.length_map] at this;omega,e.2⟩)⟩ : _ ∧ _)⟩
          have HX : Hid _:=hX2
          clear hX2 hR
          by_cases hlt : L.length < cnt
          · obtain rfl : bb = true := by
              by_cases e : bb = false
              · exact (hgo ⟨hlt,e⟩).elim
              · simpa using e
            have hgI : (0 : Int) < (cnt : Int) - (L.length : Int):=by omega
            go_wp2_with fail
            go_meet
            case rel=>exact HX
          · have hgI : ¬ (0 : Int) < (cnt : Int) - (L.length : Int):=by omega
            go_wp2_with fail
            go_meet
            case rel=>exact HX
    case rest =>
      clear HM
      obtain ⟨L,kk,bb,v,HU⟩:=hcut
      rename World=>wz
      obtain ⟨m,hx⟩:=(show _ ∧ _ from HU)
      obtain ⟨ad,cap,rfl⟩:=own_shape m.row
      obtain ⟨kW3,hz3,bg3,b3,hal,harg,h3,hM9⟩:=(show _ ∧ _ ∧ _ ∧ _ ∧ _ ∧ _ ∧ _ ∧ _ from HK)
      obtain ⟨e1,e2,e3,e4,e5⟩:=(show _ ∧ _ ∧ _ ∧ _ ∧ _ from HW)
      obtain ⟨bg0,k30,hz0,h3c⟩:=(show _ ∧ _ ∧ _ ∧ _ from HG)
      have kWz : Kb 0 W wz:=⟨(m.kb.os.trans k30.os).trans kW3.os,(m.kb.output.trans k30.output).trans kW3.output,by have:=m.kb.size;omega,fun i _ hi=>((m.kb.block i (by omega) (by omega) (by omega)).trans (k30.block i (by omega) (by omega))).trans (kW3.block i (Nat.zero_le _) hi)⟩
      have bgz : wz.heap[g]? = some (.cells #[.slice none 0 0] 30 (0,0)):=(m.kb.block g (by omega) (by omega) (by omega)).trans bg0
      have cl : wz.cell? ⟨b,2,none⟩ = some (.bool bb):=cell_of m.rd.blk rfl
      have ch : wz.cell? ⟨h,0,none⟩ = some (.slice ad L.length cap):=cell_of m.bh rfl
      have hgs : g < wz.heap.size:=(Array.getElem?_eq_some_iff.1 bgz).1
      cases bb with
      | true =>
        have HD : Hid (∀ w',Kb 0 W w' → DecM M W (.returned (.agg #[.slice none 0 0])) w'):=(fun w' k=>decm_nil (decr_no (fun L' r1 r2=>by
          have:=(pm_readM hx r1 r2).2
          cases this)) k : ∀ w',_)
        have HKW : Hid (Kb 0 W wz ∧ g = W.heap.size):=(⟨kWz,e5⟩ : _ ∧ _)
        have d0 : wz.cell? ⟨g,0,none⟩ = some (.slice none 0 0):=cell_of bgz rfl
        have df : wz.frozen? ⟨g,0,none⟩ = false:=frozen_of bgz
        clear HU m hx kW3 hz3 bg3 b3 hal harg h3 hM9 e1 e2 e3 e4 e5 bg0 k30 hz0 h3c kWz bgz HK HW HG hgs hl hl2 hcnt hM1 hMI
        go_wp2_with fail
        go_quiet (skip)
        go_wp2_with fail
        refine bodyPost_ret (by simp [results,Tryz.results14,go_sem,d0];rfl) rfl ?_
        exact (show ∀ w',Kb 0 W w' → DecM M W (.returned (.agg #[.slice none 0 0])) w' from HD) _ (Kx.kb (b:=g) ((show _ ∧ _ from HKW).1.trans (kb_drewN ⟨_,rfl⟩)) ((Kz.refl g _).set 0 _).ks (by have:=(show _ ∧ _ from HKW).2;omega))
      | false =>
        have hbd:=bdq_of m.tt (by have:=m.mo;omega) (by have:=m.gt rfl;have:=m.rd.le;omega)
        have HE : ∀ W',Kb 0 wz W' → Calls Tryz.prog 6 #[.agg #[.slice ad L.length cap]] W' fun e w'=>∃ v R,e = .returned v ∧ Img L.length (QF (L.map (·.1))) R ∧ QK W' R v w':=fun W' k=>sp_enc bitsc W' ((rowP_of m.row m.own.r4).keep k) hbd (psh_q m.tt hbd)
        have hcv : ∀ W',Kb 0 wz W' → (convert 26 9 (.slice (some a) M.length c)).run Tryz.prog W' = .ok (.string ⟨M.toArray⟩) W':=fun W' k=>((harg.keep kWz).keep k).conv
        have HX : Hid (LX pe Rok M 3 false M.length (L.map (·.1)) kk false ∧ (∀ z,z ∈ L → Rt z.1) ∧ (wz.ownsRow w0.heap.size 50 9 (.slice ad L.length cap) L.length (L.flatMap pvc) ∧ OwnL w0.heap.size wz L (Value.slice ad L.length cap).ownBlock ∧ g < w0.heap.size) ∧ Kb 0 W wz ∧ g = W.heap.size ∧ wz.heap[g]? = some (.cells #[.slice none 0 0] 30 (0,0)) ∧ g < wz.heap.size ∧ 3 ≤ M.length ∧ M.length ≤ 1000000 ∧ L.length ≤ 1000000):=(⟨hx,m.tt,⟨m.row,m.own,by omega⟩,kWz,e5,bgz,hgs,h3,hM9,by have:=m.mo;omega⟩ : _ ∧ _)
        have HE2 : Hid (∀ W' : World,W'.heap = wz.heap → W'.os = wz.os → W'.output = wz.output → Calls Tryz.prog 6 #[.agg #[.slice ad L.length cap]] W' fun e w'=>∃ v R,e = .returned v ∧ Img L.length (QF (L.map (·.1))) R ∧ QK W' R v w'):=(fun W' q1 q2 q3=>HE W' ⟨q2,q3,by rw [q1];exact Nat.le_refl _,fun i _ _=>by rw [q1]⟩ : ∀ W' : World,_)
        have hcvA : ∀ d,(convert 26 9 (.slice (some a) M.length c)).run Tryz.prog (wz.drewN d) = .ok (.string ⟨M.toArray⟩) (wz.drewN d):=fun d=>hcv _ (kb_drewN ⟨d,rfl⟩)
        have hcvD : (convert 26 9 (.slice (some a) M.length c)).run Tryz.prog wz.drew = .ok (.string ⟨M.toArray⟩) wz.drew:=hcv _ (kb_drewN ⟨1,rfl⟩)
        have HCV : Hid (∀ W',Kb 0 wz W' → (convert 26 9 (.slice (some a) M.length c)).run Tryz.prog W' = .ok (.string ⟨M.toArray⟩) W'):=hcv
        clear HU m hx kW3 hz3 bg3 b3 hal harg h3 hM9 e1 e2 e3 e4 e5 bg0 k30 hz0 h3c kWz bgz HK HW HG hgs hl hl2 hcnt hM1 hMI HE hcv hbd
        go_wp2_with fail
        go_region_with (go_at_call 6;refine ((show ∀ W' : World,W'.heap = wz.heap → W'.os = wz.os → W'.output = wz.output → _ from HE2) _ (by exact rfl) (by exact rfl) (by exact rfl)).mono ?_;rintro e w6 ⟨v6,R,rfl,i1,i2⟩;obtain ⟨a6,c6,rfl⟩:=i2.slice;have hcv6:=own_conv i2.1;have k6 : Kb 0 wz w6:=⟨i2.2.os,i2.2.output,i2.2.size,i2.2.block⟩;have hcvB:=(show ∀ W',Kb 0 wz W' → _ from HCV) w6 k6)
        all_goals
          obtain ⟨x1,x2,⟨x3,x3b,x3c⟩,x4,x5,x6,x7,x8,x9,x10⟩:=(show _ ∧ _ ∧ _ ∧ _ ∧ _ ∧ _ ∧ _ ∧ _ ∧ _ ∧ _ from HX)
          have ch6 : w6.cell? ⟨h,0,none⟩ = some (.slice ad L.length cap):=k6.cell ch
          have bg6 : w6.heap[g]? = some (.cells #[.slice none 0 0] 30 (0,0)):=(k6.block _ (Nat.zero_le _) x7).trans x6
          have d0 : w6.cell? ⟨g,0,none⟩ = some (.slice none 0 0):=cell_of bg6 rfl
          have df : w6.frozen? ⟨g,0,none⟩ = false:=frozen_of bg6
          by_cases hRM : R = M
          · have hb9 : (R == M) = true:=by simp [hRM]
            rw [hb9]
            have HD : Hid (∀ v,DecM M W (.returned (.agg #[.slice ad L.length cap])) (w6.setCell ⟨g,0,none⟩ v)):=(fun v=>by
              have zk : Kz g w6 (w6.setCell ⟨g,0,none⟩ v):=(Kz.refl _ w6).set 0 v
              have q5:=k6.size
              have kk : ∀ i,w0.heap.size ≤ i → i < wz.heap.size → (w6.setCell ⟨g,0,none⟩ v).heap[i]? = wz.heap[i]?:=fun i h1 h2=>(zk.block i (by omega)).trans (k6.block i (Nat.zero_le _) h2)
              have q6 : RowP 0 (w6.setCell ⟨g,0,none⟩ v) (.slice ad L.length cap) L.length (QF (L.map (·.1))):=rowP_of (rowBlk' x3 (fun i e=>kk i (x3.lt i e).1 (x3.lt i e).2)) (x3b.mono (Nat.le_refl _) (by rw [zk.size];exact q5) kk).r4
              refine ⟨_,L.map (·.1),rfl,by rw [List.length_map];exact q6,fun q hq=>?_,by rw [List.length_map];exact x10,?_,Kx.kb (b:=g) (x4.trans k6) zk.ks (by omega)⟩
              · obtain ⟨z,hz,rfl⟩:=List.mem_map.1 hq
                exact x2 z hz
              · refine ⟨.inr ⟨pm_of (by rw [List.length_map,← hRM];exact i1) (fun e=>by rw [e] at x8;simp at x8) x9,fun q hq=>?_⟩,fun L' r1 r2=>(pm_readM x1 r1 r2).1.symm⟩
                obtain ⟨z,hz,rfl⟩:=List.mem_map.1 hq
                exact x2 z hz : ∀ v,_)
            clear x1 x2 x3 x3b x3c x4 x5 x6 x7 x8 x9 x10 i1 i2 bg6 HX HE2 HCV hRM hb9 hcvA hcvD hcv6 hcvB k6 cl ch
            go_wp2_with fail
            refine bodyPost_ret (by simp [results,Tryz.results14,go_sem,d0];rfl) rfl ?_
            exact (show ∀ v,_ from HD) _
          · have hb9 : (R == M) = false:=by simp [hRM]
            rw [hb9]
            have HD : Hid (∀ w',Kb 0 W w' → DecM M W (.returned (.agg #[.slice none 0 0])) w'):=(fun w' k=>decm_nil (decr_no (fun L' r1 r2=>by
              obtain ⟨q1,_⟩:=pm_readM x1 r1 r2
              subst q1
              have h4:=img_of r2
              rw [List.length_map] at h4
              exact hRM (i1.uniq h4))) k : ∀ w',_)
            have HKW : Hid (Kb 0 W w6 ∧ g = W.heap.size):=(⟨x4.trans k6,x5⟩ : _ ∧ _)
            clear x1 x2 x3 x3b x3c x4 x5 x6 x7 x8 x9 x10 i1 i2 bg6 HX HE2 HCV hRM hb9 hcvA hcvD hcv6 hcvB k6 cl ch
            go_wp2_with fail
            refine bodyPost_ret (by simp [results,Tryz.results14,go_sem,d0];rfl) rfl ?_
            exact (show ∀ w',Kb 0 W w' → DecM M W (.returned (.agg #[.slice none 0 0])) w' from HD) _ (Kx.kb (b:=g) (show _ ∧ _ from HKW).1 ((Kz.refl g _).set 0 _).ks (by have:=(show _ ∧ _ from HKW).2;omega))
end Go.Proofs.YtnmeemjoodoalaaGreatDoor.Fo
