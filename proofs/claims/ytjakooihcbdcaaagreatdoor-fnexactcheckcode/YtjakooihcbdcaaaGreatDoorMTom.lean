import Derived.Test.YtjakooihcbdcaaaGreatDoorMZsq
import Derived.Test.YtjakooihcbdcaaaGreatDoorMToj
import Derived.Deep.RegionLaw
import Derived.Shelf.Abstract
set_option maxHeartbeats 16000000
namespace Go.Proofs.YtjakooihcbdcaaaGreatDoor.Fo
open Go.ChangeShapes Go.WideShapes Go.ChangeAt Go.RowKit
set_option linter.unusedVariables false
set_option maxRecDepth 100000
def GbA (a:Iv) (G:List Gv) (w:World) (e:Ending) (w':World):Prop:=∃ v,e = .returned v∧Rg (fun k=>w.heap.size≤k) w' v (gbh a G)∧Kb 0 w w'
theorem gb_oth {av : Nat → Prop} {C : Nat} {a : Iv} {G : List Gv} {vt vg v8 v9 : Value} (w : World) (hC : ChB C a vt vg v8 v9 w) (r : Rg av w vg G) (hn : G.length ≤ 50) (hf : gfit a G) (h : a.o ≠ 31 ∧ a.o ≠ 33 ∧ a.o ≠ 34 ∧ a.o ≠ 32 ∧ a.o ≠ 36) :
  Calls Tryz.prog 133 #[.pointer (some ⟨C,0,none⟩)] w (GbA a G w):=by
 obtain ⟨m31,m33,m34,m32,m36⟩:=h;have g31:=bne m31;have g33:=bne m33;have g34:=bne m34;have g32:=bne m32;have g36:=bne m36;have HB:Hid (gbh a G=G):=(by unfold gbh;simp [m31,m33,m34,m32,m36]:gbh a G=G)
 clear m31 m33 m34 m32 m36 hf;have hC':w.heap[C]? = _:=hC;have c7:w.cell? ⟨C,7,none⟩=some vg:=cell_of hC' rfl;have HCL:=im_cloneg w r (by omega);have hCs:C < w.heap.size:=(Array.getElem?_eq_some_iff.1 hC').1;obtain ⟨pg,cg,rfl,-,-⟩:=r;have HC0:Hid (∀ W,Kb 0 w W→W.cell? ⟨C,0,none⟩=some (.int .i64 a.o)∧W.cell? ⟨C,1,none⟩=some (.int .i64 a.a)∧W.cell? ⟨C,2,none⟩=some (.int .i64 a.b)):=(fun W k=>⟨k.cell (cell_of hC' rfl),k.cell (cell_of hC' rfl),k.cell (cell_of hC' rfl)⟩:∀ W,_)
 have HCS:Hid (C < w.heap.size∧G.length≤50):=(⟨hCs,hn⟩:_∧_)
 have nI:(G.length:Int)≤50:=by omega
 clear hC hC' hCs;go_enter Tryz.func133,Tryz.ntmps133;go_upto_region 2 with (go_at_call 35;refine HCL.mono ?_;rintro e w3 ⟨v,rfl,hO,k3⟩;obtain ⟨ad,cap,rfl⟩:=own_shape hO;obtain ⟨c0,c1,c2⟩:=(uh HC0) w3 k3;have HO:Hid (OwG w.heap.size w3 (.slice ad G.length cap) G∧Kb 0 w w3):=(⟨hO,k3⟩:_∧_);clear hO k3 HCL c7);have HZ:Hid (GbA a G w (.returned (.slice ad G.length cap)) w3):=⟨_,rfl,by rw [(uh HB)];exact (uh HO).1.rg,(uh HO).2⟩
 clear HO HC0 HCS;go_wp2_with fail;refine bodyPost_ret (by simp [results,Tryz.results133,go_sem];rfl) rfl ?_;exact HZ
theorem gb_33 {av : Nat → Prop} {C : Nat} {a : Iv} {G : List Gv} {vt vg v8 v9 : Value} (w : World) (hC : ChB C a vt vg v8 v9 w) (r : Rg av w vg G) (hn : G.length ≤ 50) (hf : gfit a G) (h : a.o = 33) :
  Calls Tryz.prog 133 #[.pointer (some ⟨C,0,none⟩)] w (GbA a G w):=by
 have HB:Hid (gbh a G=G ++ [(false,a.a,0)]):=(by unfold gbh;simp [h]:gbh a G=G ++ [(false,a.a,0)])
 clear hf;have hC':w.heap[C]? = _:=hC;have c7:w.cell? ⟨C,7,none⟩=some vg:=cell_of hC' rfl;have HCL:=im_cloneg w r (by omega);have hCs:C < w.heap.size:=(Array.getElem?_eq_some_iff.1 hC').1;obtain ⟨pg,cg,rfl,-,-⟩:=r;have HC0:Hid (∀ W,Kb 0 w W→W.cell? ⟨C,0,none⟩=some (.int .i64 33)∧W.cell? ⟨C,1,none⟩=some (.int .i64 a.a)∧W.cell? ⟨C,2,none⟩=some (.int .i64 a.b)):=(fun W k=>⟨k.cell (by rw [← h];exact cell_of hC' rfl),k.cell (cell_of hC' rfl),k.cell (cell_of hC' rfl)⟩:∀ W,_)
 have HCS:Hid (C < w.heap.size∧G.length≤50):=(⟨hCs,hn⟩:_∧_)
 have nI:(G.length:Int)≤50:=by omega
 clear hC hC' hCs;go_enter Tryz.func133,Tryz.ntmps133;go_upto_region 2 with (go_at_call 35;refine HCL.mono ?_;rintro e w3 ⟨v,rfl,hO,k3⟩;obtain ⟨ad,cap,rfl⟩:=own_shape hO;obtain ⟨c0,c1,c2⟩:=(uh HC0) w3 k3;have HO:Hid (OwG w.heap.size w3 (.slice ad G.length cap) G∧Kb 0 w w3):=(⟨hO,k3⟩:_∧_);clear hO k3 HCL c7);have hO:=(uh HO)
 have howna:∀ o,(w3.alloc o).ownsRow w.heap.size 72 3 (.slice ad G.length cap) G.length (G.flatMap gcl):=fun o=>World.ownsRow.alloc hO.1 o;have hqc:=qr_cells w3 #[.bool false,.int .i64 a.a,.int .i64 0] 72 [.bool false,.int .i64 a.a,.int .i64 0] rfl;have h1c:∀ u ∈ ([.bool false,.int .i64 a.a,.int .i64 0]:List Value),u.oneCell'=true:=by intro u hu;simp at hu;rcases hu with rfl | rfl | rfl <;> rfl
 have hs3:w.heap.size≤w3.heap.size:=hO.2.size;have HSTP:Hid (∀ (E:Obj) (g' c':Nat) (w7:World),w7.ownsRow w.heap.size 72 3 (.slice (some ⟨g',0,none⟩) (G.length+1) c') (G.length+1) (G.flatMap gcl ++ [.bool false,.int .i64 a.a,.int .i64 0])→(w3.alloc E).grownBy w7 (Value.slice ad G.length cap).ownBlock→GbA a G w (.returned (.slice (some ⟨g',0,none⟩) (G.length+1) c')) w7):=(fun E g' c' w7 h1 h2=>⟨_,rfl,by rw [(uh HB)];exact (owg_app (g:=(false,a.a,0)) rfl h1).rg,(hO.2.alloc E).gr h2 (fun b e=>(hO.1.lt b e).1)⟩:∀ (E:Obj),_)
 have hnn:=(uh HCS).2;obtain ⟨i0,hi0,hz0,hzs,hzb⟩:=info_parts infoG;have HI0:Hid (Tryz.prog.info? 72=some i0):=hi0;clear hi0;clear hO HO HC0 HCS HB h hn;go_wp2_with (at_builtin;refine wpList_append_lies _ rfl (.tmp 37) (.tmp 44) 66 rfl w.heap.size 72 i0 (.agg #[.bool false,.int .i64 0,.int .i64 0]) 3 24 Tryz.underlying66 HI0 hz0 hzs hzb rfl (by decide) _ _ _ rfl (howna _) ⟨w3.heap.size,0,none⟩ 1 1 [.bool false,.int .i64 a.a,.int .i64 0] rfl rfl hqc h1c (by decide) (by unfold maxLen;omega) (by omega) (by rw [World.size_alloc];omega) (w3.heap.size+1) (by simp) ?_;intro g cap' w7 hown3 hgr3 hl3 _;have HZ:Hid _:=(uh HSTP) _ _ _ _ hown3 hgr3;clear hown3 hgr3 hl3 howna hqc h1c HSTP);refine bodyPost_ret (by simp [results,Tryz.results133,go_sem];rfl) rfl ?_;exact HZ
theorem gb_31 {av : Nat → Prop} {C : Nat} {a : Iv} {G : List Gv} {vt vg v8 v9 : Value} (w : World) (hC : ChB C a vt vg v8 v9 w) (r : Rg av w vg G) (hn : G.length ≤ 50) (hf : gfit a G) (h : a.o = 31) :
  Calls Tryz.prog 133 #[.pointer (some ⟨C,0,none⟩)] w (GbA a G w):=by
 have HB:Hid (gbh a G=G ++ [(true,a.b,a.a)]):=(by unfold gbh;simp [h]:gbh a G=G ++ [(true,a.b,a.a)])
 clear hf;have hC':w.heap[C]? = _:=hC;have c7:w.cell? ⟨C,7,none⟩=some vg:=cell_of hC' rfl;have HCL:=im_cloneg w r (by omega);have hCs:C < w.heap.size:=(Array.getElem?_eq_some_iff.1 hC').1;obtain ⟨pg,cg,rfl,-,-⟩:=r;have HC0:Hid (∀ W,Kb 0 w W→W.cell? ⟨C,0,none⟩=some (.int .i64 31)∧W.cell? ⟨C,1,none⟩=some (.int .i64 a.a)∧W.cell? ⟨C,2,none⟩=some (.int .i64 a.b)):=(fun W k=>⟨k.cell (by rw [← h];exact cell_of hC' rfl),k.cell (cell_of hC' rfl),k.cell (cell_of hC' rfl)⟩:∀ W,_)
 have HCS:Hid (C < w.heap.size∧G.length≤50):=(⟨hCs,hn⟩:_∧_)
 have nI:(G.length:Int)≤50:=by omega
 clear hC hC' hCs;go_enter Tryz.func133,Tryz.ntmps133;go_upto_region 2 with (go_at_call 35;refine HCL.mono ?_;rintro e w3 ⟨v,rfl,hO,k3⟩;obtain ⟨ad,cap,rfl⟩:=own_shape hO;obtain ⟨c0,c1,c2⟩:=(uh HC0) w3 k3;have HO:Hid (OwG w.heap.size w3 (.slice ad G.length cap) G∧Kb 0 w w3):=(⟨hO,k3⟩:_∧_);clear hO k3 HCL c7);have hO:=(uh HO)
 have howna:∀ o,(w3.alloc o).ownsRow w.heap.size 72 3 (.slice ad G.length cap) G.length (G.flatMap gcl):=fun o=>World.ownsRow.alloc hO.1 o;have hqc:=qr_cells w3 #[.bool true,.int .i64 a.b,.int .i64 a.a] 72 [.bool true,.int .i64 a.b,.int .i64 a.a] rfl;have h1c:∀ u ∈ ([.bool true,.int .i64 a.b,.int .i64 a.a]:List Value),u.oneCell'=true:=by intro u hu;simp at hu;rcases hu with rfl | rfl | rfl <;> rfl
 have hs3:w.heap.size≤w3.heap.size:=hO.2.size;have HSTP:Hid (∀ (W4:World) (g' c':Nat) (w7:World),Kb 0 w W4→w7.ownsRow w.heap.size 72 3 (.slice (some ⟨g',0,none⟩) (G.length+1) c') (G.length+1) (G.flatMap gcl ++ [.bool true,.int .i64 a.b,.int .i64 a.a])→W4.grownBy w7 (Value.slice ad G.length cap).ownBlock→GbA a G w (.returned (.slice (some ⟨g',0,none⟩) (G.length+1) c')) w7):=(fun W4 g' c' w7 k4 h1 h2=>⟨_,rfl,by rw [(uh HB)];exact (owg_app (g:=(true,a.b,a.a)) rfl h1).rg,k4.gr h2 (fun b e=>(hO.1.lt b e).1)⟩:∀ (W4:World),_)
 have HK3:Hid (∀ E,Kb 0 w (w3.alloc E).drew∧Kb 0 w (w3.drew.alloc E)):=(fun E=>⟨(hO.2.alloc E).drew,hO.2.drew.alloc E⟩:∀ E,_)
 have hownb:∀ o,(w3.drew.alloc o).ownsRow w.heap.size 72 3 (.slice ad G.length cap) G.length (G.flatMap gcl):=fun o=>World.ownsRow.alloc (World.ownsRow.drew hO.1) o;have hqb:=qr_cells w3.drew #[.bool true,.int .i64 a.b,.int .i64 a.a] 72 [.bool true,.int .i64 a.b,.int .i64 a.a] rfl;have hnn:=(uh HCS).2;obtain ⟨i0,hi0,hz0,hzs,hzb⟩:=info_parts infoG;have HI0:Hid (Tryz.prog.info? 72=some i0):=hi0;clear hi0;clear hO HO HC0 HCS HB h hn;go_upto_region 5 with fail
 go_region_law (refine step_append_lies _ rfl (.tmp 21) (.tmp 33) 66 rfl w.heap.size 72 i0 (.agg #[.bool false,.int .i64 0,.int .i64 0]) 3 24 Tryz.underlying66 HI0 hz0 hzs hzb rfl (by decide) (.slice ad G.length cap) G.length (G.flatMap gcl) (by simp [Act.eval]) (by first | exact howna _ | exact hownb _ | exact World.ownsRow.drew (howna _)) ⟨w3.heap.size,0,none⟩ 1 1 [.bool true,.int .i64 a.b,.int .i64 a.a] (by simp [Act.eval]) rfl (by first | exact hqc | exact hqb | exact fun j u hj=>hqc j u hj) h1c (by decide) (by unfold maxLen;omega) (by omega) (by simp;omega) (w3.heap.size+1) (by simp) ?_;intro g cap' w7 hown3 hgr3 hl3 _;have HZ:Hid _:=(uh HSTP) _ _ _ _ (by first | exact ((uh HK3) _).1 | exact ((uh HK3) _).2) hown3 hgr3;clear hown3 hgr3 hl3 howna hqc h1c HSTP)
 all_goals
  go_wp2_with fail;refine bodyPost_ret (by simp [results,Tryz.results133,go_sem];rfl) rfl ?_;exact HZ
theorem gb_32 {av : Nat → Prop} {C : Nat} {a : Iv} {G : List Gv} {vt vg v8 v9 : Value} (w : World) (hC : ChB C a vt vg v8 v9 w) (r : Rg av w vg G) (hn : G.length ≤ 50) (hf : gfit a G) (h : a.o = 32) :
  Calls Tryz.prog 133 #[.pointer (some ⟨C,0,none⟩)] w (GbA a G w):=by
 have hne:G ≠ []:=fun q=>by rw [q] at hf;unfold gfit at hf;simp [h,ctc] at hf
 have HLP:Hid (∃ (m:Nat) (g:Gv),LastP G m g):=last_of hne;have HB:Hid (gbh a G=G.dropLast):=(by unfold gbh;simp [h]:gbh a G=G.dropLast)
 clear hf hne;have hC':w.heap[C]? = _:=hC;have c7:w.cell? ⟨C,7,none⟩=some vg:=cell_of hC' rfl;have HCL:=im_cloneg w r (by omega);have hCs:C < w.heap.size:=(Array.getElem?_eq_some_iff.1 hC').1;obtain ⟨pg,cg,rfl,-,-⟩:=r;have HC0:Hid (∀ W,Kb 0 w W→W.cell? ⟨C,0,none⟩=some (.int .i64 32)∧W.cell? ⟨C,1,none⟩=some (.int .i64 a.a)∧W.cell? ⟨C,2,none⟩=some (.int .i64 a.b)):=(fun W k=>⟨k.cell (by rw [← h];exact cell_of hC' rfl),k.cell (cell_of hC' rfl),k.cell (cell_of hC' rfl)⟩:∀ W,_)
 have HCS:Hid (C < w.heap.size∧G.length≤50):=(⟨hCs,hn⟩:_∧_)
 have nI:(G.length:Int)≤50:=by omega
 clear hC hC' hCs;go_enter Tryz.func133,Tryz.ntmps133;go_upto_region 2 with (go_at_call 35;refine HCL.mono ?_;rintro e w3 ⟨v,rfl,hO,k3⟩;obtain ⟨ad,cap,rfl⟩:=own_shape hO;obtain ⟨c0,c1,c2⟩:=(uh HC0) w3 k3;have HO:Hid (OwG w.heap.size w3 (.slice ad G.length cap) G∧Kb 0 w w3):=(⟨hO,k3⟩:_∧_);clear hO k3 HCL c7);obtain ⟨m,g,hL⟩:=(uh HLP)
 have hO:=(uh HO)
 obtain ⟨q,rfl,hcap,hq2⟩:∃ q,ad=some ⟨q,0,none⟩∧m+1≤cap∧w.heap.size≤q:=by
  rcases hO.1.2 with ⟨e,e'⟩ | ⟨q,c',cur,e,h1',h2',h3',_⟩
  ·rw [hL.1] at e';omega
  ·obtain ⟨rfl,rfl⟩:ad=some ⟨q,0,none⟩∧cap=c':=by simpa using e
   exact ⟨q,rfl,by rw [hL.1] at h3';exact h3',h1'⟩
 have hcs:∀ j x,G[j]? = some x→∀ t,t < 3→w3.cell? ⟨q,j*3+t,none⟩=(gcl x)[t]?:=fun j x hx t ht=>by
  have e:=gcl_at G j x hx t ht;have hj:=(List.getElem?_eq_some_iff.1 hx).1;have:=World.ownsRow.cellAt hO.1 (j*3+t) (by omega);rw [this,e]
 obtain ⟨b,hbq⟩:∃ b:Addr,b=⟨q,0,none⟩:=⟨_,rfl⟩
 have hfz:∀ j,w3.frozen? ⟨q,j,none⟩=false:=fun j=>World.ownsRow.frozenAt hO.1 j;rw [← hbq];rw [hL.1];have cI:(m:Int)+1≤(cap:Int):=by omega
 have mI:(m:Int)+1≤50:=by have:=(uh HCS).2;have:=hL.1;omega
 have HZ:Hid (GbA a G w (.returned (.slice (some b) m cap)) w3):=by
  refine ⟨_,rfl,?_,hO.2⟩;rw [(uh HB)];refine ⟨some b,cap,by rw [hL.2.2.2.2.2.1],by rw [hL.2.2.2.2.2.1];omega,fun hp=>⟨b,rfl,by rw [hbq];exact hq2,fun j x hx=>?_⟩⟩;have hj:=(List.getElem?_eq_some_iff.1 hx).1;have hx2:G[j]? = some x:=by rw [hL.2.2.2.2.1,List.getElem?_append_left hj];exact hx
  rw [hbq,addr0];exact ⟨hcs j x hx2 0 (by omega),hcs j x hx2 1 (by omega),hcs j x hx2 2 (by omega)⟩
 clear hL hO hcap hq2 hcs hbq hfz HO HC0 HCS HLP HB h hn nI;go_wp2_with fail;refine bodyPost_ret (by simp [results,Tryz.results133,go_sem];rfl) rfl ?_;exact HZ
theorem gb_36 {av : Nat → Prop} {C : Nat} {a : Iv} {G : List Gv} {vt vg v8 v9 : Value} (w : World) (hC : ChB C a vt vg v8 v9 w) (r : Rg av w vg G) (hn : G.length ≤ 50) (hf : gfit a G) (h : a.o = 36) :
  Calls Tryz.prog 133 #[.pointer (some ⟨C,0,none⟩)] w (GbA a G w):=by
 have hne:G ≠ []:=fun q=>by rw [q] at hf;unfold gfit at hf;simp [h,dfr] at hf
 have HLP:Hid (∃ (m:Nat) (g:Gv),LastP G m g):=last_of hne;have HB:Hid (gbh a G=G.dropLast):=(by unfold gbh;simp [h]:gbh a G=G.dropLast)
 clear hf hne;have hC':w.heap[C]? = _:=hC;have c7:w.cell? ⟨C,7,none⟩=some vg:=cell_of hC' rfl;have HCL:=im_cloneg w r (by omega);have hCs:C < w.heap.size:=(Array.getElem?_eq_some_iff.1 hC').1;obtain ⟨pg,cg,rfl,-,-⟩:=r;have HC0:Hid (∀ W,Kb 0 w W→W.cell? ⟨C,0,none⟩=some (.int .i64 36)∧W.cell? ⟨C,1,none⟩=some (.int .i64 a.a)∧W.cell? ⟨C,2,none⟩=some (.int .i64 a.b)):=(fun W k=>⟨k.cell (by rw [← h];exact cell_of hC' rfl),k.cell (cell_of hC' rfl),k.cell (cell_of hC' rfl)⟩:∀ W,_)
 have HCS:Hid (C < w.heap.size∧G.length≤50):=(⟨hCs,hn⟩:_∧_)
 have nI:(G.length:Int)≤50:=by omega
 clear hC hC' hCs;go_enter Tryz.func133,Tryz.ntmps133;go_upto_region 2 with (go_at_call 35;refine HCL.mono ?_;rintro e w3 ⟨v,rfl,hO,k3⟩;obtain ⟨ad,cap,rfl⟩:=own_shape hO;obtain ⟨c0,c1,c2⟩:=(uh HC0) w3 k3;have HO:Hid (OwG w.heap.size w3 (.slice ad G.length cap) G∧Kb 0 w w3):=(⟨hO,k3⟩:_∧_);clear hO k3 HCL c7);obtain ⟨m,g,hL⟩:=(uh HLP)
 have hO:=(uh HO)
 obtain ⟨q,rfl,hcap,hq2⟩:∃ q,ad=some ⟨q,0,none⟩∧m+1≤cap∧w.heap.size≤q:=by
  rcases hO.1.2 with ⟨e,e'⟩ | ⟨q,c',cur,e,h1',h2',h3',_⟩
  ·rw [hL.1] at e';omega
  ·obtain ⟨rfl,rfl⟩:ad=some ⟨q,0,none⟩∧cap=c':=by simpa using e
   exact ⟨q,rfl,by rw [hL.1] at h3';exact h3',h1'⟩
 have hcs:∀ j x,G[j]? = some x→∀ t,t < 3→w3.cell? ⟨q,j*3+t,none⟩=(gcl x)[t]?:=fun j x hx t ht=>by
  have e:=gcl_at G j x hx t ht;have hj:=(List.getElem?_eq_some_iff.1 hx).1;have:=World.ownsRow.cellAt hO.1 (j*3+t) (by omega);rw [this,e]
 obtain ⟨b,hbq⟩:∃ b:Addr,b=⟨q,0,none⟩:=⟨_,rfl⟩
 have hfz:∀ j,w3.frozen? ⟨q,j,none⟩=false:=fun j=>World.ownsRow.frozenAt hO.1 j;rw [← hbq];rw [hL.1];have cI:(m:Int)+1≤(cap:Int):=by omega
 have mI:(m:Int)+1≤50:=by have:=(uh HCS).2;have:=hL.1;omega
 have HZ:Hid (GbA a G w (.returned (.slice (some b) m cap)) w3):=by
  refine ⟨_,rfl,?_,hO.2⟩;rw [(uh HB)];refine ⟨some b,cap,by rw [hL.2.2.2.2.2.1],by rw [hL.2.2.2.2.2.1];omega,fun hp=>⟨b,rfl,by rw [hbq];exact hq2,fun j x hx=>?_⟩⟩;have hj:=(List.getElem?_eq_some_iff.1 hx).1;have hx2:G[j]? = some x:=by rw [hL.2.2.2.2.1,List.getElem?_append_left hj];exact hx
  rw [hbq,addr0];exact ⟨hcs j x hx2 0 (by omega),hcs j x hx2 1 (by omega),hcs j x hx2 2 (by omega)⟩
 clear hL hO hcap hq2 hcs hbq hfz HO HC0 HCS HLP HB h hn nI;go_wp2_with fail;refine bodyPost_ret (by simp [results,Tryz.results133,go_sem];rfl) rfl ?_;exact HZ
theorem gb_34 {av : Nat → Prop} {C : Nat} {a : Iv} {G : List Gv} {vt vg v8 v9 : Value} (w : World) (hC : ChB C a vt vg v8 v9 w) (r : Rg av w vg G) (hn : G.length ≤ 50) (hf : gfit a G) (h : a.o = 34) :
  Calls Tryz.prog 133 #[.pointer (some ⟨C,0,none⟩)] w (GbA a G w):=by
 have hne:G ≠ []:=fun q=>by rw [q] at hf;unfold gfit at hf;simp [h,dfr] at hf
 have HLP:Hid (∃ (m:Nat) (g:Gv),LastP G m g):=last_of hne;have HB:Hid (∀ g,G.getLast? = some g→gbh a G=G.dropLast ++ [(g.1,a.a,g.2.2)]):=(fun g hg=>by unfold gbh;simp [h,hg]:∀ g,_)
 clear hf hne;have hC':w.heap[C]? = _:=hC;have c7:w.cell? ⟨C,7,none⟩=some vg:=cell_of hC' rfl;have HCL:=im_cloneg w r (by omega);have hCs:C < w.heap.size:=(Array.getElem?_eq_some_iff.1 hC').1;obtain ⟨pg,cg,rfl,-,-⟩:=r;have HC0:Hid (∀ W,Kb 0 w W→W.cell? ⟨C,0,none⟩=some (.int .i64 34)∧W.cell? ⟨C,1,none⟩=some (.int .i64 a.a)∧W.cell? ⟨C,2,none⟩=some (.int .i64 a.b)):=(fun W k=>⟨k.cell (by rw [← h];exact cell_of hC' rfl),k.cell (cell_of hC' rfl),k.cell (cell_of hC' rfl)⟩:∀ W,_)
 have HCS:Hid (C < w.heap.size∧G.length≤50):=(⟨hCs,hn⟩:_∧_)
 have nI:(G.length:Int)≤50:=by omega
 clear hC hC' hCs;go_enter Tryz.func133,Tryz.ntmps133;go_upto_region 2 with (go_at_call 35;refine HCL.mono ?_;rintro e w3 ⟨v,rfl,hO,k3⟩;obtain ⟨ad,cap,rfl⟩:=own_shape hO;obtain ⟨c0,c1,c2⟩:=(uh HC0) w3 k3;have HO:Hid (OwG w.heap.size w3 (.slice ad G.length cap) G∧Kb 0 w w3):=(⟨hO,k3⟩:_∧_);clear hO k3 HCL c7);obtain ⟨m,g,hL⟩:=(uh HLP)
 have hO:=(uh HO)
 obtain ⟨q,rfl,hcap,hq2⟩:∃ q,ad=some ⟨q,0,none⟩∧m+1≤cap∧w.heap.size≤q:=by
  rcases hO.1.2 with ⟨e,e'⟩ | ⟨q,c',cur,e,h1',h2',h3',_⟩
  ·rw [hL.1] at e';omega
  ·obtain ⟨rfl,rfl⟩:ad=some ⟨q,0,none⟩∧cap=c':=by simpa using e
   exact ⟨q,rfl,by rw [hL.1] at h3';exact h3',h1'⟩
 have hcs:∀ j x,G[j]? = some x→∀ t,t < 3→w3.cell? ⟨q,j*3+t,none⟩=(gcl x)[t]?:=fun j x hx t ht=>by
  have e:=gcl_at G j x hx t ht;have hj:=(List.getElem?_eq_some_iff.1 hx).1;have:=World.ownsRow.cellAt hO.1 (j*3+t) (by omega);rw [this,e]
 obtain ⟨b,hbq⟩:∃ b:Addr,b=⟨q,0,none⟩:=⟨_,rfl⟩
 have hfz:∀ j,w3.frozen? ⟨q,j,none⟩=false:=fun j=>World.ownsRow.frozenAt hO.1 j;rw [← hbq];rw [hL.1];have cI:(m:Int)+1≤(cap:Int):=by omega
 have mI:(m:Int)+1≤50:=by have:=(uh HCS).2;have:=hL.1;omega
 have e0:b.add (m*3)=⟨q,m*3,none⟩:=by rw [hbq,addr0]
 have d1:w3.cell? ⟨(b.add (m*3)).block,(b.add (m*3)).off+1,none⟩=some (.int .i64 g.2.1):=by rw [e0];exact hcs m g hL.2.1 1 (by omega)
 have f1:w3.frozen? ⟨(b.add (m*3)).block,(b.add (m*3)).off+1,none⟩=false:=by rw [e0];exact hfz _
 have HZ:Hid (GbA a G w (.returned (.slice (some b) (m+1) cap)) (w3.setCell ⟨(b.add (m*3)).block,(b.add (m*3)).off+1,none⟩ (.int .i64 a.a))):=by
  rw [e0];have eG:=(uh HB) g hL.2.2.2.2.2.2;have eL:(gbh a G).length=m+1:=by rw [eG,List.length_append,hL.2.2.2.2.2.1];rfl
  refine ⟨_,rfl,?_,hO.2.setCell _ (Or.inr (by show w.heap.size≤q;exact hq2)) _⟩;refine ⟨some b,cap,by rw [eL],by rw [eL];exact hcap,fun _=>⟨b,rfl,by rw [hbq];exact hq2,fun j x hx=>?_⟩⟩;have hj:j < m+1:=by have:=(List.getElem?_eq_some_iff.1 hx).1;omega
  rw [hbq,addr0];by_cases ej:j=m
  ·subst ej;rw [eG,List.getElem?_append_right (by rw [hL.2.2.2.2.2.1];exact Nat.le_refl _),hL.2.2.2.2.2.1,Nat.sub_self] at hx;have ex:(g.1,a.a,g.2.2)=x:=by simpa using hx
   subst ex;exact ⟨(set_ne _ q (j*3+1) (j*3) _ (by omega)).trans (hcs j g hL.2.1 0 (by omega)),set_eq _ _ _ _ _ (hcs j g hL.2.1 1 (by omega)),(set_ne _ q (j*3+1) (j*3+2) _ (by omega)).trans (hcs j g hL.2.1 2 (by omega))⟩
  ·rw [eG,List.getElem?_append_left (by rw [hL.2.2.2.2.2.1];omega)] at hx;have hx2:G[j]? = some x:=by rw [hL.2.2.2.2.1,List.getElem?_append_left (by rw [hL.2.2.2.2.2.1];omega)];exact hx
   exact ⟨(set_ne _ q (m*3+1) (j*3) _ (by omega)).trans (hcs j x hx2 0 (by omega)),(set_ne _ q (m*3+1) (j*3+1) _ (by omega)).trans (hcs j x hx2 1 (by omega)),(set_ne _ q (m*3+1) (j*3+2) _ (by omega)).trans (hcs j x hx2 2 (by omega))⟩
 clear hL hO hcap hq2 hcs hbq hfz HO HC0 HCS HLP HB h hn nI e0;go_wp2_with fail;refine bodyPost_ret (by simp [results,Tryz.results133,go_sem];rfl) rfl ?_;exact HZ
theorem im_gbh {av : Nat → Prop} {C : Nat} {a : Iv} {G : List Gv} {vt vg v8 v9 : Value} (w : World) (hC : ChB C a vt vg v8 v9 w) (r : Rg av w vg G) (hn : G.length ≤ 50) (hf : gfit a G) :
  Calls Tryz.prog 133 #[.pointer (some ⟨C,0,none⟩)] w (GbA a G w):=by
 by_cases h:a.o=31
 ·exact gb_31 w hC r hn hf h
 have n31:=h;clear h;by_cases h:a.o=33
 ·exact gb_33 w hC r hn hf h
 have n33:=h;clear h;by_cases h:a.o=34
 ·exact gb_34 w hC r hn hf h
 have n34:=h;clear h;by_cases h:a.o=32
 ·exact gb_32 w hC r hn hf h
 have n32:=h;clear h;by_cases h:a.o=36
 ·exact gb_36 w hC r hn hf h
 have n36:=h;clear h;exact gb_oth w hC r hn hf ⟨n31,n33,n34,n32,n36⟩
theorem im_below (x K:Int) (B:Nat) (w:World) (hB:w.cell? ⟨B,0,none⟩=some (.int .i64 K)):Calls Tryz.prog 172 #[.int .i64 x,.pointer (some ⟨B,0,none⟩)] w fun e w'=>e = .returned (.bool (dc (x < K)))∧w'=w:=by
 obtain ⟨R,hR⟩:∃ R,R=dc (x < K):=⟨_,rfl⟩
 rw [← hR];by_cases c:x < K
 ·rw [dc_t c] at hR;subst hR;go_enter Tryz.func172,Tryz.ntmps172;go_wp2_with fail;go_ret;exact ⟨by first | rfl | simp [c],rfl⟩
 ·rw [dc_f c] at hR;subst hR;go_enter Tryz.func172,Tryz.ntmps172;go_wp2_with fail;go_ret;exact ⟨by first | rfl | simp [c] | (simp;omega),rfl⟩
theorem en_below:∀ args w,(callFunc 172 args).run Tryz.prog w = .ok (.enter 172 args) w:=enters_of Tryz.func172 (by kernel_rfl) rfl
theorem im_ixbelow {av : Nat → Prop} {T : List Int} {va : Value} (K : Int) (B : Nat) (w : World) (h1 : Rz av w va T) (hn : T.length ≤ 1000) (hB : w.cell? ⟨B, 0, none⟩ = some (.int .i64 K)) :
  Calls Tryz.prog 187 #[va,.func (.func 172) #[] #[.pointer (some ⟨B,0,none⟩)]] w fun e w'=>∃ r:Int,e = .returned (.int .i64 r)∧(0≤r↔∃ x,x ∈ T∧x < K)∧w'=w:=by
 obtain ⟨pa,ca,rfl,-,a1⟩:=h1;have HA:Hid (0 < T.length→∃ a:Addr,pa=some a∧av a.block∧∀ j x,T[j]? = some x→w.cell? (a.add j)=some (.int .i64 x)):=a1;have n1:(T.length:Int)≤1000:=by omega
 have eg:=en_below;have HCB:Hid (∀ x,Calls Tryz.prog 172 #[.int .i64 x,.pointer (some ⟨B,0,none⟩)] w fun e w'=>e = .returned (.bool (dc (x < K)))∧w'=w):=(fun x=>im_below x K B w hB:∀ x,_)
 clear a1 hn hB;go_enter Tryz.func187,Tryz.ntmps187;go_wp2_with fail
 go_loopw [8] (fun sl wr=>∃ i:Nat,sl = .int .i64 i∧i≤T.length∧wr=w∧Hid (∀ j x,j < i→T[j]? = some x→K≤x)) (fun sl _=>T.length - (intOf sl).toNat)
 case atStart=>exact ⟨0,rfl,Nat.zero_le _,rfl,(fun j x h=>by omega:∀ j x,_)⟩
 case round =>
  obtain ⟨i,rfl,hi,rfl,HX⟩:=hrel
  rename World=>w
  have hX:=(uh HX)
  clear HX;rcases Nat.lt_or_ge i T.length with h | h
  ·have hI:(i:Int) < (T.length:Int):=by omega
   obtain ⟨a,rfl,-,ra⟩:=(uh HA) (by omega)
   obtain ⟨p,hp⟩:∃ p,T[i]? = some p:=⟨_,List.getElem?_eq_getElem h⟩
   have s1:=ra i p hp;have hcall:=(uh HCB) p;by_cases e:p < K
   ·rw [dc_t e] at hcall;have HZ:Hid (0≤(i:Int)↔∃ x,x ∈ T∧x < K):=(⟨fun _=>⟨p,List.mem_of_getElem? hp,e⟩,fun _=>by omega⟩:_↔_)
    clear hX ra hp e HA HCB;go_wp2_with (go_at_fn 172;refine hcall.mono ?_;rintro e w' ⟨rfl,hw'⟩;rw [hw'];clear hw' w' hcall);go_ret;exact ⟨_,rfl,HZ,rfl⟩
   ·rw [dc_f e] at hcall
    have HN:Hid (∀ j x,j < i+1→T[j]? = some x→K≤x):=(fun j x hj hx=>by
     by_cases ej:j=i
     ·subst ej;rw [hp] at hx;cases hx;omega
     ·exact hX j x (by omega) hx:∀ j x,_)
    clear hX ra hp e HA;go_wp2_with (go_at_fn 172;refine hcall.mono ?_;rintro e w' ⟨rfl,hw'⟩;rw [hw'];clear hw' w' hcall);go_roundw
    case rel=>exact ⟨i+1,by go_num,by omega,by simp,HN⟩
    case measure=>simp [intOf];omega
  ·have hI:¬ (i:Int) < (T.length:Int):=by omega
   have HZ:Hid (0≤(-1:Int)↔∃ x,x ∈ T∧x < K):=(⟨fun q=>by omega,fun ⟨x,q1,q2⟩=>by
    obtain ⟨j,hj⟩:=List.getElem?_of_mem q1
    have:=hX j x (by have:=(List.getElem?_eq_some_iff.1 hj).1;omega) hj;omega⟩:_↔_)
   clear hX HA HCB;go_wp2_with fail;go_ret;exact ⟨_,rfl,HZ,rfl⟩
theorem im_ctbelow {av : Nat → Prop} {T : List Int} {va : Value} (K : Int) (B : Nat) (w : World) (h1 : Rz av w va T) (hn : T.length ≤ 1000) (hB : w.cell? ⟨B, 0, none⟩ = some (.int .i64 K)) :
  Calls Tryz.prog 171 #[va,.func (.func 172) #[] #[.pointer (some ⟨B,0,none⟩)]] w fun e w'=>e = .returned (.bool (dc (∃ x,x ∈ T∧x < K)))∧w'=w:=by
 have HI:=im_ixbelow K B w h1 hn hB;obtain ⟨pa,ca,rfl,-,-⟩:=h1;obtain ⟨R,hR⟩:∃ R,R=dc (∃ x,x ∈ T∧x < K):=⟨_,rfl⟩
 rw [← hR];clear hn hB;go_enter Tryz.func171,Tryz.ntmps171;go_wp2_with fail;refine HI.mono ?_;rintro e w2 ⟨r,rfl,hr,rfl⟩;by_cases c:∃ x,x ∈ T∧x < K
 ·have g:=hr.2 c;rw [dc_t c] at hR;subst hR;clear hr HI c;go_wp2_with fail;go_ret;exact ⟨by first | rfl | simp | simp [g],rfl⟩
 ·have g:¬ 0≤r:=fun q=>c (hr.1 q);rw [dc_f c] at hR;subst hR;clear hr HI c;go_wp2_with fail;go_ret;exact ⟨by first | rfl | (simp;omega),rfl⟩
theorem rz_take {av:Nat→Prop} {W:World} {pv:Option Addr} {n cv:Nat} {T:List Int} (h:Rz av W (.slice pv n cv) T) {k:Nat} (hk:k≤T.length):Rz av W (.slice pv k cv) (T.take k):=by
 obtain ⟨p',c',e,h0,h2⟩:=h;obtain ⟨rfl,e2,rfl⟩:=Value.slice.inj e;have hl:(T.take k).length=k:=by rw [List.length_take];omega
 refine ⟨pv,cv,by rw [hl],by omega,fun hp=>?_⟩;obtain ⟨a,e1,e3,e4⟩:=h2 (by omega);exact ⟨a,e1,e3,fun j x hx=>e4 j x (by rw [List.getElem?_take] at hx;split at hx;exact hx;cases hx)⟩
