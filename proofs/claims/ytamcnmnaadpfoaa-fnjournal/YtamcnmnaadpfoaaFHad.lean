import Derived.Test.YtamcnmnaadpfoaaFHaa
import Derived.Test.YtamcnmnaadpfoaaFReg
set_option maxHeartbeats 16000000
namespace Go.Proofs.Ytamcnmnaadpfoaa.Fo
open Go.ChangeShapes Go.WideShapes Go.ChangeAt Go.RowKit
set_option linter.unusedVariables false
set_option maxRecDepth 100000
def s2 (W:World) (B:Nat) (t:Int) (v:Value):World:=(W.setCell ⟨B,0,none⟩ (.int .i64 t)).setCell ⟨B,1,none⟩ v
theorem s2_far {k:Nat} (W:World) (B:Nat) (t:Int) (v:Value) (h:k ≠ B):(s2 W B t v).heap[k]? = W.heap[k]?:=by
 unfold s2
 rw [Below.heap_setCell _ _ _ _ h,Below.heap_setCell _ _ _ _ h]
theorem s2_size (W:World) (B:Nat) (t:Int) (v:Value):(s2 W B t v).heap.size=W.heap.size:=by
 unfold s2
 simp
theorem s2_known {W:World} {B:Nat} {u0 u1:Value} {ty:TypeId} (h:W.heap[B]? = some (.cells #[u0,u1] ty (0,0))) (t:Int) (v:Value):(s2 W B t v).heap[B]? = some (.cells #[.int .i64 t,v] ty (0,0)):=by
 unfold s2
 have h0:(W.setCell ⟨B,0,none⟩ (.int .i64 t)).heap[B]? = some (.cells #[.int .i64 t,u1] ty (0,0)):=set_known _ h
 exact set_known _ h0
theorem infoVp:(Try.prog.info? 41).map (fun i=>(i.zero,i.size,i.bytes))=some (some (.agg #[.int .i64 0,.int .i64 0,.string ⟨#[]⟩,.int .i64 0]),4,40):=by kernel_rfl
theorem infoTp:(Try.prog.info? 50).map (fun i=>(i.zero,i.size,i.bytes))=some (some (.agg #[.int .i64 0,.slice none 0 0]),2,32):=by kernel_rfl
theorem im_thing {B : Nat} {pn : Option Addr} {A p : Addr} {n cn nb mb : Nat} {o : List Int} {vo : Value} {f : Td} (w0 w : World) (h : NS B pn A n cn nb mb o vo w) (k0 : Kb 0 w0 w) (hB : B ≤ w.heap.size) (g1 : w0.heap.size ≤ nb) (g2 : w0.heap.size ≤ mb) (g3 : w0.heap.size ≤ B) (ht : ThC 0 w0 p f) (hv : ∀ j, j < f.c → (f.C j).k = 4 → 0 ≤ (f.C j).r ∧ (f.C j).r < (n : Int)) (hn : n ≤ 1048576) (hc : f.c ≤ 1048576) :
  Calls Try.prog 97 #[.pointer (some ⟨nb,0,none⟩),.pointer (some p)] w fun e w'=>∃ vo' vx,e = .returned (.agg #[.int .i64 f.t,vx])∧NS B pn A n cn nb mb (exts o f.C f.c) vo' w'∧w'.ownsRow w.heap.size 41 4 vx f.c (vcl (exts o f.C f.c) f.C f.c)∧Fo4 B nb mb w w':=by
 obtain ⟨l1,l2,l3,l4⟩:=h.lt
 obtain ⟨vc,⟨y0,y1⟩,⟨pc,cc,rfl,hvc⟩⟩:=ht
 have hcI:(f.c:Int)≤1048576:=by omega
 obtain ⟨w2,hw2⟩:∃ w2,w2=(w.alloc (.cells #[.int .i64 0,.slice none 0 0] 50)).alloc (.cells #[.int .i64 f.t,.slice none 0 0] 50):=⟨_,rfl⟩
 have k2:Kb 0 w w2:=by rw [hw2];exact kb_alloc2 _ _ _ _
 have z2:w2.heap.size=w.heap.size+2:=by rw [hw2];simp
 have b0:w2.heap[w.heap.size]? = some (.cells #[.int .i64 0,.slice none 0 0] 50 (0,0)):=by
  rw [hw2,(kb_alloc 0 _ _).block _ (Nat.zero_le _) (by rw [World.size_alloc];omega)]
  exact alloc_new _ _ _
 have b1:w2.heap[w.heap.size+1]? = some (.cells #[.int .i64 f.t,.slice none 0 0] 50 (0,0)):=by
  have e:(w.alloc (.cells #[.int .i64 0,.slice none 0 0] 50)).heap.size=w.heap.size+1:=World.size_alloc _ _
  rw [hw2,← e]
  exact alloc_new _ _ _
 have HT0:Hid (TS B pn A n cn nb mb o f.t f.C w w.heap.size 0 vo (.slice none 0 0) w2):=(⟨h.kb k2,Fo4.of_kb k2,b0,b1,World.ownsRow_nil _ _ _ _,by omega⟩:TS B pn A n cn nb mb o f.t f.C w w.heap.size 0 vo (.slice none 0 0) w2)
 have a0:w.cell? p=some (.int .i64 f.t):=k0.cell y0
 have a0':∀ ob,(w.alloc ob).cell? p=some (.int .i64 f.t):=fun ob=>(k0.trans (kb_alloc 0 w ob)).cell y0
 have a1:w2.cell? ⟨p.block,p.off+1,none⟩=some (.slice pc f.c cc):=(k0.trans k2).cell y1
 have HW2:Hid (w2=(w.alloc (.cells #[.int .i64 0,.slice none 0 0] 50)).alloc (.cells #[.int .i64 f.t,.slice none 0 0] 50)):=hw2
 have HVC:Hid ((0 < f.c→∃ a:Addr,pc=some a∧f.c≤cc∧0≤a.block∧∀ i,i < f.c→ValC 0 w0 (a.add (i*4)) (f.C i))∧∀ j,j < f.c→(f.C j).k=4→0≤(f.C j).r∧(f.C j).r < (n:Int)):=(⟨hvc,hv⟩:_∧_)
 have HK:Hid (Kb 0 w0 w∧w0.heap.size≤nb∧w0.heap.size≤mb∧w0.heap.size≤B∧nb < w.heap.size∧mb < w.heap.size∧B≤w.heap.size∧n≤1048576):=(⟨k0,g1,g2,g3,l1,l2,hB,hn⟩:_∧_)
 clear h k0 hB g1 g2 g3 y0 y1 hvc hv hn hc l1 l2 l3 l4 k2 z2 b0 b1 hw2
 go_enter Try.func97,Try.ntmps97
 go_upto_region 2 with fail
 rw [← (show w2 = _ from HW2)]
 clear HW2 a0 a0'
 go_wp2_with fail
 clear a1
 go_loopw [18] (fun s18 wr=>∃ (j:Nat) (vo vx:Value),s18 = .int .i64 (j:Int)∧j≤f.c∧Hid (TS B pn A n cn nb mb o f.t f.C w w.heap.size j vo vx wr)) (fun s18 _=>f.c - (intOf s18).toNat)
 case atStart=>exact ⟨0,_,_,rfl,Nat.zero_le _,HT0⟩
 case round =>
  clear HT0
  obtain ⟨j,vo,vx,rfl,hj0,HX⟩:=hrel
  have hX:=(show TS B pn A n cn nb mb o f.t f.C w w.heap.size j vo vx wr from HX)
  obtain ⟨k0,g1,g2,g3,l1,l2,hB,hn⟩:=(show Kb 0 w0 w∧w0.heap.size≤nb∧w0.heap.size≤mb∧w0.heap.size≤B∧nb < w.heap.size∧mb < w.heap.size∧B≤w.heap.size∧n≤1048576 from HK)
  obtain ⟨px,cx,rfl⟩:=own_shape hX.xr
  rcases Nat.lt_or_ge j f.c with hj | hj
  case inr =>
   obtain rfl:j=f.c:=by omega
   have hI:¬ (f.c:Int) < (f.c:Int):=by omega
   have c0:wr.cell? ⟨w.heap.size+1,0,none⟩=some (.int .i64 f.t):=cell_of hX.xu rfl
   have c1:wr.cell? ⟨w.heap.size+1,1,none⟩=some (.slice px f.c cx):=cell_of hX.xu rfl
   have q0:wr.cell? ⟨w.heap.size,0,none⟩=some (.int .i64 0):=cell_of hX.rs rfl
   have q1:wr.cell? ⟨w.heap.size,1,none⟩=some (.slice none 0 0):=cell_of hX.rs rfl
   have qz:∀ j,wr.frozen? ⟨w.heap.size,j,none⟩=false:=fun j=>frozen_of hX.rs
   obtain ⟨WF,hWF⟩:∃ WF,WF=s2 wr w.heap.size f.t (.slice px f.c cx):=⟨_,rfl⟩
   have bF:=s2_known hX.rs f.t (.slice px f.c cx)
   rw [← hWF] at bF
   have e0:WF.cell? ⟨w.heap.size,0,none⟩=some (.int .i64 f.t):=cell_of bF rfl
   have e1:WF.cell? ⟨w.heap.size,1,none⟩=some (.slice px f.c cx):=cell_of bF rfl
   have HE:Hid (NS B pn A n cn nb mb (exts o f.C f.c) vo WF∧WF.ownsRow w.heap.size 41 4 (.slice px f.c cx) f.c (vcl (exts o f.C f.c) f.C f.c)∧Fo4 B nb mb w WF):=(by
    have hb:∀ g,g ≠ w.heap.size→WF.heap[g]? = wr.heap[g]?:=fun g hg=>by rw [hWF];exact s2_far _ _ _ _ hg
    have hzz:WF.heap.size=wr.heap.size:=by rw [hWF];exact s2_size _ _ _ _
    refine ⟨hX.ns.keep (fun g hg e=>hb g ?_),own_base (own_keep hX.xr (fun g e=>hb g (by have:=(hX.xr.lt g e).1;omega))) (by omega),⟨by rw [hWF];exact hX.fo.os,by rw [hWF];exact hX.fo.output,by have:=hX.fo.size;omega,fun k hk h1 h2 h3=>(hb k (by omega)).trans (hX.fo.block k hk h1 h2 h3)⟩⟩
    rcases e with rfl | rfl | e
    ·omega
    ·omega
    ·exact own_ty hX.ns.oo hX.rs (by decide) e:_∧_)
   unfold s2 at hWF
   have HWF:Hid (WF=(wr.setCell ⟨w.heap.size,0,none⟩ (.int .i64 f.t)).setCell ⟨w.heap.size,1,none⟩ (.slice px f.c cx)):=hWF
   clear hX HX HK HVC k0 g1 g2 g3 l1 l2 hB hn hj bF hWF
   go_wp2_with fail
   rw [← (show WF = _ from HWF)]
   clear HWF
   refine bodyPost_ret (by simp [results,Try.results97,go_sem,e0,e1];rfl) rfl ?_
   exact ⟨_,_,rfl,HE⟩
  have hI:(j:Int) < (f.c:Int):=by omega
  obtain ⟨hvc,hv⟩:=(show (0 < f.c→∃ a:Addr,pc=some a∧f.c≤cc∧0≤a.block∧∀ i,i < f.c→ValC 0 w0 (a.add (i*4)) (f.C i))∧∀ j,j < f.c→(f.C j).k=4→0≤(f.C j).r∧(f.C j).r < (n:Int) from HVC)
  obtain ⟨AC,rfl,hcc,-,hrc⟩:=hvc (by omega)
  have kw:Kb 0 w0 wr:=hX.fo.kb k0 g1 g2 g3
  obtain ⟨z0,z1,z2,z3⟩:=hrc j hj
  replace z0:=kw.cell z0
  replace z1:=kw.cell z1
  replace z2:=kw.cell z2
  replace z3:=kw.cell z3
  obtain ⟨v,hvd⟩:∃ v,v=f.C j:=⟨_,rfl⟩
  have hvl:v.k=4→0≤v.r∧v.r < (n:Int):=by rw [hvd];exact hv j hj
  rw [← hvd] at z0 z1 z2 z3
  obtain ⟨W5,hW5⟩:∃ W5,W5=wr.alloc (.cells #[.int .i64 v.k,.int .i64 v.m,.string v.x,.int .i64 v.r] 41):=⟨_,rfl⟩
  have k5:Kb 0 wr W5:=by rw [hW5];exact kb_alloc _ _ _
  have s5z:W5.heap.size=wr.heap.size+1:=by rw [hW5];simp
  have b5:W5.heap[wr.heap.size]? = some (.cells #[.int .i64 v.k,.int .i64 v.m,.string v.x,.int .i64 v.r] 41 (0,0)):=by rw [hW5];exact alloc_new _ _ _
  have u5:=(k5.block (w.heap.size+1) (Nat.zero_le _) (by have:=hX.sz;omega)).trans hX.xu
  have hsz:=hX.sz
  have d0:W5.cell? ⟨wr.heap.size,0,none⟩=some (.int .i64 v.k):=cell_of b5 rfl
  have d1:W5.cell? ⟨wr.heap.size,1,none⟩=some (.int .i64 v.m):=cell_of b5 rfl
  have d2:W5.cell? ⟨wr.heap.size,2,none⟩=some (.string v.x):=cell_of b5 rfl
  have d3:W5.cell? ⟨wr.heap.size,3,none⟩=some (.int .i64 v.r):=cell_of b5 rfl
  have d4:W5.cell? ⟨w.heap.size+1,1,none⟩=some (.slice px j cx):=cell_of u5 rfl
  obtain ⟨oe,hoe⟩:∃ oe,oe=ext (exts o f.C j) v:=⟨_,rfl⟩
  obtain ⟨rv,hrv⟩:∃ rv,rv=rnm oe v:=⟨_,rfl⟩
  obtain ⟨VC,hVC⟩:∃ VC,VC=vcl (exts o f.C j) f.C j:=⟨_,rfl⟩
  have HM:Hid (∀ W,Kb 0 W5 W→Calls Try.prog 96 #[.pointer (some ⟨nb,0,none⟩),.agg #[.int .i64 v.k,.int .i64 v.m,.string v.x,.int .i64 v.r]] W fun e w'=>∃ vo',e = .returned (.agg #[.int .i64 rv.k,.int .i64 rv.m,.string rv.x,.int .i64 rv.r])∧NS B pn A n cn nb mb oe vo' w'∧Fo4 B nb mb W5 w'):=(fun W k=>by
   have hns:=(hX.ns.kb k5).kb k
   refine (im_met (v:=v) W hns (by have:=k.size;omega) hvl hn).mono ?_
   rintro e w' ⟨vo',he,h1,h2⟩
   rw [← hoe] at he h1
   rw [← hrv] at he
   exact ⟨vo',he,h1,(Fo4.of_kb k).trans (Fo4.of3 hns h2)⟩:∀ W,_)
  have HST:Hid (∀ (w6:World) (vo':Value),NS B pn A n cn nb mb oe vo' w6→Fo4 B nb mb W5 w6→((w6.cell? ⟨w.heap.size+1,1,none⟩=some (.slice px j cx)∧w6.cell? ⟨wr.heap.size,0,none⟩=some (.int .i64 v.k)∧w6.cell? ⟨wr.heap.size,1,none⟩=some (.int .i64 v.m)∧w6.cell? ⟨wr.heap.size,2,none⟩=some (.string v.x)∧w6.cell? ⟨wr.heap.size,3,none⟩=some (.int .i64 v.r))∧(∀ ob,((w6.alloc ob).cell? ⟨w.heap.size+1,1,none⟩=some (.slice px j cx)∧(w6.alloc ob).cell? ⟨wr.heap.size,0,none⟩=some (.int .i64 v.k)∧(w6.alloc ob).cell? ⟨wr.heap.size,1,none⟩=some (.int .i64 v.m)∧(w6.alloc ob).cell? ⟨wr.heap.size,2,none⟩=some (.string v.x)∧(w6.alloc ob).cell? ⟨wr.heap.size,3,none⟩=some (.int .i64 v.r)))∧w.heap.size+2≤w6.heap.size∧w6.ownsRow (w.heap.size+2) 41 4 (.slice px j cx) j VC)∧∀ (ob:Obj) (v':Value) (w8:World),w8.ownsRow (w.heap.size+2) 41 4 v' (j+1) (VC ++ [.int .i64 rv.k,.int .i64 rv.m,.string rv.x,.int .i64 rv.r])→(w6.alloc ob).grownBy w8 (Value.slice px j cx).ownBlock→(w8.cell? ⟨w.heap.size+1,1,none⟩=some (.slice px j cx)∧w8.cell? ⟨wr.heap.size,0,none⟩=some (.int .i64 v.k)∧w8.cell? ⟨wr.heap.size,1,none⟩=some (.int .i64 v.m)∧w8.cell? ⟨wr.heap.size,2,none⟩=some (.string v.x)∧w8.cell? ⟨wr.heap.size,3,none⟩=some (.int .i64 v.r))∧(w8.cell? ⟨w.heap.size+1,1,none⟩=some (.slice px j cx)∧∀ i,w8.frozen? ⟨w.heap.size+1,i,none⟩=false)∧TS B pn A n cn nb mb o f.t f.C w w.heap.size (j+1) vo' v' (w8.setCell ⟨w.heap.size+1,1,none⟩ v')):=(fun w6 vo' hns hf=>by
   have f6:Fo4 B nb mb wr w6:=(Fo4.of_kb k5).trans hf
   have u6:=(hf.cells u5 (by decide) (by omega) (by omega)).trans u5
   have v6:=(hf.cells b5 (by decide) (by omega) (by omega)).trans b5
   have x6:w6.ownsRow (w.heap.size+2) 41 4 (.slice px j cx) j (vcl (exts o f.C j) f.C j):=f6.own hX.xr (by decide) (by omega) (by omega)
   have cel:∀ W':World,W'.heap[w.heap.size+1]? = w6.heap[w.heap.size+1]? → W'.heap[wr.heap.size]? = w6.heap[wr.heap.size]? → (W'.cell? ⟨w.heap.size+1,1,none⟩=some (.slice px j cx)∧W'.cell? ⟨wr.heap.size,0,none⟩=some (.int .i64 v.k)∧W'.cell? ⟨wr.heap.size,1,none⟩=some (.int .i64 v.m)∧W'.cell? ⟨wr.heap.size,2,none⟩=some (.string v.x)∧W'.cell? ⟨wr.heap.size,3,none⟩=some (.int .i64 v.r)):=fun W' e1 e2=>⟨cell_of (e1.trans u6) rfl,cell_of (e2.trans v6) rfl,cell_of (e2.trans v6) rfl,cell_of (e2.trans v6) rfl,cell_of (e2.trans v6) rfl⟩
   have h6z:=hf.size
   refine ⟨⟨cel w6 rfl rfl,fun ob=>cel _ ((kb_alloc 0 w6 ob).block _ (Nat.zero_le _) (by omega)) ((kb_alloc 0 w6 ob).block _ (Nat.zero_le _) (by omega)),by omega,by rw [hVC];exact x6⟩,fun ob v' w8 ho8 hg8=>?_⟩
   have h8:∀ g,g < w6.heap.size→some g ≠ (Value.slice px j cx).ownBlock→w8.heap[g]? = w6.heap[g]?:=fun g hg' hne=>(hg8.block g (by rw [World.size_alloc];omega) hne).trans ((kb_alloc 0 w6 ob).block g (Nat.zero_le _) hg')
   refine ⟨cel w8 (h8 _ (by omega) (fun e=>own_ty x6 u6 (by decide) e.symm rfl)) (h8 _ (by omega) (fun e=>by have:=(hX.xr.lt _ e.symm).2;omega)),?_⟩
   rw [hoe,hvd] at hns
   rw [hVC,hrv,hoe,hvd] at ho8
   exact hX.push k5 l1 l2 (Nat.le_refl _) hns hf ho8 hg8:∀ (w6:World) (vo':Value),_)
  obtain ⟨i0,hi0,hz0,hz1,hz2⟩:=info_parts infoVp
  have HI0:Hid (Try.prog.info? 41=some i0):=hi0
  have h1c:∀ y ∈ ([.int .i64 rv.k,.int .i64 rv.m,.string rv.x,.int .i64 rv.r]:List Value),y.oneCell'=true:=by
   intro y hy
   simp only [List.mem_cons,List.not_mem_nil,or_false] at hy
   rcases hy with rfl | rfl | rfl | rfl <;> rfl
  have HW5:Hid (W5=wr.alloc (.cells #[.int .i64 v.k,.int .i64 v.m,.string v.x,.int .i64 v.r] 41)):=hW5
  have hqc:∀ w6:World,∀ (k:Nat) (y:Value),([.int .i64 rv.k,.int .i64 rv.m,.string rv.x,.int .i64 rv.r]:List Value)[k]? = some y→(w6.alloc (.cells #[.int .i64 rv.k,.int .i64 rv.m,.string rv.x,.int .i64 rv.r] 41)).cell? ((⟨w6.heap.size,0,none⟩:Addr).add k)=some y:=fun w6=>qr_cells w6 #[.int .i64 rv.k,.int .i64 rv.m,.string rv.x,.int .i64 rv.r] 41 [.int .i64 rv.k,.int .i64 rv.m,.string rv.x,.int .i64 rv.r] rfl
  have HQC:Hid (∀ w6:World,_):=hqc
  have hjc:j < 1048576:=by omega
  clear hX HX HVC hvc hv hrc kw k5 s5z b5 u5 hsz hvl hvd hoe hrv hVC k0 g1 g2 g3 l1 l2 hB hn hW5 hi0 hcc hqc hj0
  go_upto_region 5 with fail
  rw [← (show W5 = _ from HW5)]
  clear HW5 z0 z1 z2 z3
  refine AnyL.region (S:=fun W'=>(W'.cell? ⟨w.heap.size+1,1,none⟩=some (.slice px j cx)∧W'.cell? ⟨wr.heap.size,0,none⟩=some (.int .i64 v.k)∧W'.cell? ⟨wr.heap.size,1,none⟩=some (.int .i64 v.m)∧W'.cell? ⟨wr.heap.size,2,none⟩=some (.string v.x)∧W'.cell? ⟨wr.heap.size,3,none⟩=some (.int .i64 v.r))) (z:=8) (by kernel_rfl) ?_
  have hS0:(fun W':World=>(W'.cell? ⟨w.heap.size+1,1,none⟩=some (.slice px j cx)∧W'.cell? ⟨wr.heap.size,0,none⟩=some (.int .i64 v.k)∧W'.cell? ⟨wr.heap.size,1,none⟩=some (.int .i64 v.m)∧W'.cell? ⟨wr.heap.size,2,none⟩=some (.string v.x)∧W'.cell? ⟨wr.heap.size,3,none⟩=some (.int .i64 v.r))) W5.drew:=(⟨d4,d0,d1,d2,d3⟩:_∧_)
  clear d0 d1 d2 d3 d4
  refine AnyL.takeAt 0 (.pointer (some ⟨w.heap.size+1,1,none⟩)) rfl (by kernel_rfl) (by kernel_rfl) (by kernel_rfl) (by kernel_rfl) (fun _ _ _ h=>h) rfl hS0 (by intro W hW;first | go_simp | (obtain ⟨i0,i1,i2,i3,i4⟩:=hW;go_simp)) ?_
  try simp only [Act.put,List.setIfInBounds_toArray,List.set_cons_zero,List.set_cons_succ]
  refine AnyL.takeAt 1 (.slice px j cx) rfl (by kernel_rfl) (by kernel_rfl) (by kernel_rfl) (by kernel_rfl) (fun _ _ _ h=>h) rfl hS0 (by intro W hW;first | go_simp | (obtain ⟨i0,i1,i2,i3,i4⟩:=hW;go_simp)) ?_
  try simp only [Act.put,List.setIfInBounds_toArray,List.set_cons_zero,List.set_cons_succ]
  refine AnyL.takeAt 2 (.pointer (some ⟨nb,0,none⟩)) rfl (by kernel_rfl) (by kernel_rfl) (by kernel_rfl) (by kernel_rfl) (fun _ _ _ h=>h) rfl hS0 (by intro W hW;first | go_simp | (obtain ⟨i0,i1,i2,i3,i4⟩:=hW;go_simp)) ?_
  try simp only [Act.put,List.setIfInBounds_toArray,List.set_cons_zero,List.set_cons_succ]
  refine AnyL.takeAt 3 (.agg #[.int .i64 v.k,.int .i64 v.m,.string v.x,.int .i64 v.r]) rfl (by kernel_rfl) (by kernel_rfl) (by kernel_rfl) (by kernel_rfl) (fun _ _ _ h=>h) rfl hS0 (by intro W hW;first | go_simp | (obtain ⟨i0,i1,i2,i3,i4⟩:=hW;go_simp)) ?_
  try simp only [Act.put,List.setIfInBounds_toArray,List.set_cons_zero,List.set_cons_succ]
  refine AnyL.oneAt 4 rfl (by kernel_rfl) rfl ?_
  intro K hK
  go_simp
  refine ((show ∀ W,Kb 0 W5 W→_ from HM) _ (by exact Kb.drewN (Kb.refl _ _) 1)).mono ?_
  rintro e w6 ⟨vo',rfl,hns,hf⟩
  obtain ⟨⟨hS6,hS6a,h6z,hown6⟩,HS8⟩:=(show ∀ (w6:World) (vo':Value),NS B pn A n cn nb mb oe vo' w6→Fo4 B nb mb W5 w6→_ from HST) w6 vo' hns hf
  replace HS8:Hid (∀ (ob:Obj) (v':Value) (w8:World),_):=HS8
  clear HM HST hns hf hS0
  refine hK.out _ _ (fun _=>hS6) ?_
  clear hK K
  try simp only [Act.put,List.setIfInBounds_toArray,List.set_cons_zero,List.set_cons_succ]
  refine AnyL.oneAt 5 rfl (by kernel_rfl) rfl ?_
  intro K hK
  go_simp
  refine hK.out _ _ (fun _=>hS6a _) ?_
  clear hK K
  try simp only [Act.put,List.setIfInBounds_toArray,List.set_cons_zero,List.set_cons_succ]
  refine AnyL.oneAt 6 rfl (by kernel_rfl) rfl ?_
  intro K hK
  refine wp_append_own _ (.tmp 23) (.tmp 27) 48 rfl (w.heap.size+2) 41 i0 (.agg #[.int .i64 0,.int .i64 0,.string ⟨#[]⟩,.int .i64 0]) 4 40 Try.underlying48 HI0 hz0 hz1 hz2 rfl (by decide) (.slice px j cx) j VC rfl (hown6.alloc _) ⟨w6.heap.size,0,none⟩ 1 1 [.int .i64 rv.k,.int .i64 rv.m,.string rv.x,.int .i64 rv.r] rfl rfl ((show ∀ w6:World,_ from HQC) w6) h1c (by unfold maxLen;omega) (by omega) (by simp;omega) ?_
  intro v' w8 hown1 hgrow1 _
  obtain ⟨px',cx',rfl⟩:=own_shape hown1
  obtain ⟨hS8,⟨x1,x2⟩,hTS⟩:=(show ∀ (ob:Obj) (v':Value) (w8:World),_ from HS8) _ _ _ hown1 hgrow1
  have HTS:Hid (TS B pn A n cn nb mb o f.t f.C w w.heap.size (j+1) vo' (.slice px' (j+1) cx') (w8.setCell ⟨w.heap.size+1,1,none⟩ (.slice px' (j+1) cx'))):=hTS
  clear HS8 hown1 hgrow1 hTS hS6 hS6a hown6
  refine hK.out _ _ (fun _=>hS8) ?_
  clear hK K
  try simp only [Act.put,List.setIfInBounds_toArray,List.set_cons_zero,List.set_cons_succ]
  first
  | (refine AnyL.takeAt 7 (.pointer (some ⟨w.heap.size+1,1,none⟩)) rfl (by kernel_rfl) (by kernel_rfl) (by kernel_rfl) (by kernel_rfl) (fun _ _ _ h=>h) rfl hS8 (by intro W hW;go_simp) ?_)
  | skip
  try simp only [Act.put,List.setIfInBounds_toArray,List.set_cons_zero,List.set_cons_succ]
  refine AnyL.oneAt 8 rfl (by kernel_rfl) rfl ?_
  intro K hK
  go_simp
  refine hK.out _ _ (fun h=>absurd rfl h) ?_
  clear hK K hS8 x1 x2
  try simp only [Act.put,List.setIfInBounds_toArray,List.set_cons_zero,List.set_cons_succ]
  refine AnyL.done (by kernel_rfl) ?_
  go_wp2_with fail
  go_roundw
  case rel=>exact ⟨j+1,_,_,by go_num,by omega,HTS⟩
  case measure=>simp [intOf];omega
structure FS (w:World) (n:Nat) (F:Nat→Td) (a:Gv) (pn:Option Addr) (A:Addr) (cn fb:Nat) (o:List Int) (i:Nat) (vo vn:Value) (V:Nat→Value) (W:World):Prop where
 kb:Kb 0 w W
 rs:W.heap[w.heap.size+1]? = some (.cells #[.int .i64 0,.int .i64 0,.string ⟨#[]⟩,.int .i64 0,.slice none 0 0] 44 (0,0))
 ns:NS (w.heap.size+4) pn A n cn (w.heap.size+1+1+1) (w.heap.size+1+1) o vo W
 ou:W.heap[fb]? = some (.cells #[.int .i64 (rnm o a).k,.int .i64 (rnm o a).m,.string (rnm o a).x,.int .i64 (rnm o a).r,vn] 44 (0,0))
 nn:W.ownsRow (fb+1) 50 2 vn i (ncl F o V i)
 vs:∀ k,k < i→W.ownsRow (fb+1) 41 4 (V k) (F (nth o k)).c (vcl o (F (nth o k)).C (F (nth o k)).c)
 dv:∀ k k',k < k'→k' < i→∀ g g',(V k).ownBlock=some g→(V k').ownBlock=some g'→g ≠ g'
 sz:fb+1≤W.heap.size
 hf:w.heap.size+4≤fb
 il:i≤o.length
 cr:a.k=4→a.r ∈ o
 cv:∀ k,k < i→∀ j,j < (F (nth o k)).c→((F (nth o k)).C j).k=4→((F (nth o k)).C j).r ∈ o
theorem FS.kb2 {w:World} {n:Nat} {F:Nat→Td} {a:Gv} {pn:Option Addr} {A:Addr} {cn fb:Nat} {o:List Int} {i:Nat} {vo vn:Value} {V:Nat→Value} {W W':World} (h:FS w n F a pn A cn fb o i vo vn V W) (k:Kb 0 W W'):FS w n F a pn A cn fb o i vo vn V W':=by
 have hz:=h.sz
 have hz2:=h.hf
 have b:∀ g,g < W.heap.size→W'.heap[g]? = W.heap[g]?:=fun g hg=>k.block g (Nat.zero_le _) hg
 exact ⟨h.kb.trans k,(b _ (by omega)).trans h.rs,h.ns.kb k,(b _ (by omega)).trans h.ou,own_keep h.nn (fun g e=>b g (h.nn.lt g e).2),fun q hq=>own_keep (h.vs q hq) (fun g e=>b g ((h.vs q hq).lt g e).2),h.dv,Nat.le_trans h.sz k.size,h.hf,h.il,h.cr,h.cv⟩
theorem FS.step {w : World} {n : Nat} {F : Nat → Td} {a : Gv} {pn : Option Addr} {A : Addr} {cn fb : Nat} {o : List Int} {i : Nat} {vo vo' vn vx : Value} {V : Nat → Value} {W w6 : World} (h : FS w n F a pn A cn fb o i vo vn V W) (hi : i < o.length) (hns : NS (w.heap.size + 4) pn A n cn (w.heap.size + 1 + 1 + 1) (w.heap.size + 1 + 1) (exts o (F (nth o i)).C (F (nth o i)).c) vo' w6) (hx : w6.ownsRow W.heap.size 41 4 vx (F (nth o i)).c (vcl (exts o (F (nth o i)).C (F (nth o i)).c) (F (nth o i)).C (F (nth o i)).c)) (hf : Fo4 (w.heap.size + 4) (w.heap.size + 1 + 1 + 1) (w.heap.size + 1 + 1) W w6) :
    (w6.cell? ⟨fb,4,none⟩=some vn∧(∀ ob,(w6.alloc ob).cell? ⟨fb,4,none⟩=some vn)∧fb+1≤w6.heap.size∧w6.ownsRow (fb+1) 50 2 vn i (ncl F o V i))∧∀ (ob:Obj) (w8:World) (vn':Value),w8.ownsRow (fb+1) 50 2 vn' (i+1) (ncl F o V i ++ [.int .i64 (F (nth o i)).t,vx])→(w6.alloc ob).grownBy w8 vn.ownBlock→(w8.cell? ⟨fb,4,none⟩=some vn∧∀ j,w8.frozen? ⟨fb,j,none⟩=false)∧FS w n F a pn A cn fb (exts o (F (nth o i)).C (F (nth o i)).c) (i+1) vo' vn' (fun q=>if q=i then vx else V q) (w8.setCell ⟨fb,4,none⟩ vn'):=by
  obtain ⟨o',ho'⟩:∃ o',o'=exts o (F (nth o i)).C (F (nth o i)).c:=⟨_,rfl⟩
  obtain ⟨tl,et⟩:=exts_pre o (F (nth o i)).C (F (nth o i)).c
  have hmem:∀ j,j < (F (nth o i)).c→((F (nth o i)).C j).k=4→((F (nth o i)).C j).r ∈ o':=fun j hj q=>by rw [ho'];exact exts_mem hj q
  rw [← ho'] at et hns hx ⊢
  have hz:=h.sz
  have hz2:=h.hf
  have hzf:=hf.size
  have u6:=(hf.cells h.ou (by decide) (by omega) (by omega)).trans h.ou
  have r6:=(hf.cells h.rs (by decide) (by omega) (by omega)).trans h.rs
  have n6:w6.ownsRow (fb+1) 50 2 vn i (ncl F o V i):=hf.own h.nn (by decide) (by omega) (by omega)
  have v6:∀ k,k < i→w6.ownsRow (fb+1) 41 4 (V k) (F (nth o k)).c (vcl o (F (nth o k)).C (F (nth o k)).c):=fun k hk=>hf.own (h.vs k hk) (by decide) (by omega) (by omega)
  have k6:Kb 0 w w6:=hf.kb h.kb (by omega) (by omega) (by omega)
  refine ⟨⟨cell_of u6 rfl,fun ob=>(kb_alloc 0 w6 ob).cell (cell_of u6 rfl),by omega,n6⟩,fun ob w8 vn' hr hg=>?_⟩
  have hs:=hg.size
  rw [World.size_alloc] at hs
  have b8:∀ g,g < w6.heap.size→some g ≠ vn.ownBlock→w8.heap[g]? = w6.heap[g]?:=fun g hg' hne=>(hg.block g (by rw [World.size_alloc];omega) hne).trans ((kb_alloc 0 w6 ob).block g (Nat.zero_le _) hg')
  have hnl:∀ g,vn.ownBlock=some g→fb+1≤g:=fun g e=>(n6.lt g e).1
  have u8:=(b8 fb (by omega) (fun e=>by have:=hnl _ e.symm;omega)).trans u6
  have bs:∀ g,g ≠ fb→(w8.setCell ⟨fb,4,none⟩ vn').heap[g]? = w8.heap[g]?:=fun g hg'=>Below.heap_setCell _ _ _ _ hg'
  have hzz:(w8.setCell ⟨fb,4,none⟩ vn').heap.size=w8.heap.size:=World.size_setCell _ _ _
  have bl:∀ g,g < w.heap.size+4→(w8.setCell ⟨fb,4,none⟩ vn').heap[g]? = w6.heap[g]?:=fun g hg'=>(bs g (by omega)).trans (b8 g (by omega) (fun e=>by have:=hnl g e.symm;omega))
  have bv:∀ {B s m:Nat} {ty:TypeId} {v:Value} {l:List Value},w6.ownsRow B ty s v m l→fb+1≤B→ty ≠ 50→(w8.setCell ⟨fb,4,none⟩ vn').ownsRow B ty s v m l:=fun {B s m ty v l} hr' hB ht=>own_keep hr' (fun g e=>(bs g (by have:=(hr'.lt g e).1;omega)).trans (b8 g (hr'.lt g e).2 (own_ne hr' n6 ht e)))
  have e1:rnm o' a=rnm o a:=by rw [et];exact rnm_pre h.cr
  have e2:∀ k,k≤i→nth o' k=nth o k:=fun k hk=>by rw [et];exact nth_pre (by omega)
  have mem:∀ {x:Int},x ∈ o→x ∈ o':=fun {x} q=>by rw [et];exact List.mem_append.2 (.inl q)
  refine ⟨⟨cell_of u8 rfl,fun j=>frozen_of u8⟩,⟨⟨hg.os.trans k6.os,hg.output.trans k6.output,by rw [hzz];have:=k6.size;omega,fun g _ hg'=>(bl g (by omega)).trans (k6.block g (Nat.zero_le _) hg')⟩,(bl _ (by omega)).trans r6,?_,?_,?_,fun k hk=>?_,fun k k' hkk hk' g g' hg1 hg2=>?_,by rw [hzz];omega,hz2,?_,fun q=>mem (h.cr q),fun k hk=>?_⟩⟩
  · refine NS.keep hns (fun g hg' e=>?_)
    rcases e with rfl | rfl | e
    · exact bl _ (by omega)
    · exact bl _ (by omega)
    · exact (bs g (own_ty hns.oo u6 (by decide) e)).trans (b8 g hg' (own_ne hns.oo n6 (by decide) e))
  · rw [set_known vn' u8,e1];rfl
  · have e : ncl F o' (fun q => if q = i then vx else V q) (i + 1) = ncl F o V i ++ [.int .i64 (F (nth o i)).t, vx] := by
      show ncl F o' _ i ++ [.int .i64 (F (nth o' i)).t,if i=i then vx else V i] = _
      rw [ncl_upd (Nat.le_refl _),if_pos rfl,e2 i (Nat.le_refl _),et,ncl_pre h.il]
    rw [e]
    exact own_keep hr (fun g e=>bs g (by have:=(hr.lt g e).1;omega))
  · rw [e2 k (by omega)]
    by_cases e:k=i
    · subst e
      rw [if_pos rfl]
      exact own_base (bv hx (by omega) (by decide)) (by omega)
    · rw [if_neg e,et,vcl_pre (h.cv k (by omega))]
      exact bv (v6 k (by omega)) (Nat.le_refl _) (by decide)
  · by_cases e':k'=i
    · subst e'
      rw [if_pos rfl] at hg2
      rw [if_neg (by omega)] at hg1
      have q1:=(hx.lt g' hg2).1
      have q2:=((h.vs k (by omega)).lt g hg1).2
      omega
    · rw [if_neg e'] at hg2
      rw [if_neg (by omega)] at hg1
      exact h.dv k k' hkk (by omega) g g' hg1 hg2
  · rw [et,List.length_append];omega
  · rw [e2 k (by omega)]
    by_cases e:k=i
    · subst e;exact hmem
    · intro j hj q;exact mem (h.cv k (by omega) j hj q)
structure FE (w:World) (n:Nat) (F:Nat→Td) (o:List Int) (vn:Value) (V:Nat→Value) (W:World):Prop where
 kb:Kb 0 w W
 nn:W.ownsRow w.heap.size 50 2 vn o.length (ncl F o V o.length)
 vs:∀ k,k < o.length→W.ownsRow w.heap.size 41 4 (V k) (F (nth o k)).c (vcl o (F (nth o k)).C (F (nth o k)).c)
 dv:∀ k k',k < k'→k' < o.length→∀ g g',(V k).ownBlock=some g→(V k').ownBlock=some g'→g ≠ g'
theorem FE.row {w:World} {n:Nat} {F:Nat→Td} {o:List Int} {vn:Value} {V:Nat→Value} {W:World} (h:FE w n F o vn V W):RowT w.heap.size W vn o.length (cnF F o):=by
 have hn':=h.nn
 obtain ⟨ad,cap,rfl⟩:=own_shape hn'
 refine ⟨ad,cap,rfl,fun hn=>?_⟩
 obtain ⟨g,cap',e,hB,hc,hcell⟩:=own_cells hn' hn
 injection e with e1 e2 e3
 subst e1
 subst e3
 refine ⟨_,rfl,hc,hB,fun k hk=>?_⟩
 rw [addr0]
 exact ⟨V k,CelT.of (fun t ht=>(hcell _ (by omega)).trans (ncl_at F o V ht hk)),own_vals (h.vs k hk)⟩
theorem FS.fin {w:World} {n:Nat} {F:Nat→Td} {a:Gv} {pn:Option Addr} {A:Addr} {cn fb:Nat} {o:List Int} {vo vn:Value} {V:Nat→Value} {W W':World} (h:FS w n F a pn A cn fb o o.length vo vn V W) (hb:∀ g,g ≠ w.heap.size+1→W'.heap[g]? = W.heap[g]?) (hs:W'.heap.size=W.heap.size) (hos:W'.os=W.os) (hout:W'.output=W.output):FE w n F o vn V W':=by
 have hz2:=h.hf
 exact ⟨⟨hos.trans h.kb.os,hout.trans h.kb.output,by rw [hs];exact h.kb.size,fun g _ hg=>(hb g (by omega)).trans (h.kb.block g (Nat.zero_le _) hg)⟩,own_base (own_keep h.nn (fun g e=>hb g (by have:=(h.nn.lt g e).1;omega))) (by omega),fun k hk=>own_base (own_keep (h.vs k hk) (fun g e=>hb g (by have:=((h.vs k hk).lt g e).1;omega))) (by omega),h.dv⟩
end Go.Proofs.Ytamcnmnaadpfoaa.Fo
