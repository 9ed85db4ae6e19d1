import Derived.Test.YtnmeemjoodoalaaGreatDoorMCdd
import Derived.Deep.AppendLies
import Derived.Laws.AppendOwn
import Derived.MapKept
set_option maxHeartbeats 4000000
namespace Go.Proofs.YtnmeemjoodoalaaGreatDoor.Fo
open Go.ChangeShapes Go.WideShapes Go.ChangeAt Go.RowKit
set_option linter.unusedVariables false
set_option maxRecDepth 100000
theorem tMI : Tryz.prog.underlying 100 = some (.map 3 3):=by kernel_rfl
theorem t3I : Tryz.prog.underlying 3 = some (.int .i64):=by kernel_rfl
def Mi (w : World) (M : Nat) (L : List Int) : Prop:=∃ es clock,w.heap[M]? = some (.map es clock) ∧ es.toList.map (fun e=>e.key) = L.map (fun x=>Value.int .i64 x) ∧ ∀ e ∈ es.toList,∃ p : Int,e.val = .int .i64 p
theorem mi_key {es : Array MapEntry} {L : List Int} (h : es.toList.map (fun e=>e.key) = L.map (fun x=>Value.int .i64 x)) : ∀ e ∈ es.toList,MapKept.IsKey (.int .i64) e.key:=by
  intro e he
  have : e.key ∈ es.toList.map (fun e=>e.key):=List.mem_map.2 ⟨e,he,rfl⟩
  rw [h] at this
  obtain ⟨y,_,hy⟩:=List.mem_map.1 this
  rw [← hy]
  rfl
theorem mi_mem {es : Array MapEntry} {L : List Int} (h : es.toList.map (fun e=>e.key) = L.map (fun x=>Value.int .i64 x)) (x : Int) : (∃ e ∈ es.toList,e.key = .int .i64 x) ↔ x ∈ L:=by
  have e1 : (∃ e ∈ es.toList,e.key = .int .i64 x) ↔ Value.int .i64 x ∈ es.toList.map (fun e=>e.key):=by simp
  rw [e1,h]
  simp
theorem run_lookI {w : World} {M : Nat} {L : List Int} (h : Mi w M L) (x : Int) : ∃ p : Int,(Instr.lookup 100 (.map (some M)) (.int .i64 x) true).run Tryz.prog w = .ok (.tuple #[.int .i64 p,.bool (dc (x ∈ L))]) w:=by
  obtain ⟨es,clock,hb,he,hv⟩:=h
  have hk : MapKept.IsKey (.int .i64) (.int .i64 x):=rfl
  have hc:=MapKept.run_checkKey (w:=w) t3I hk
  rcases MapKept.findNow_spec hk es.toList 0 (mi_key he) with ⟨h1,h2⟩ | ⟨j,e,h1,h2,h3⟩
  · refine ⟨0,?_⟩
    have hr:=MapKept.run_findKey (w:=w) t3I h1
    rw [dc_f (fun g=>by obtain ⟨e,e1,e2⟩:=(mi_mem he x).2 g;exact h2 e e1 e2)]
    unfold Instr.lookup
    have hz : (zeroValue 3).run Tryz.prog w = .ok (.int .i64 0) w:=by kernel_rfl
    simp only [Sem.run_bind,run_underlying tMI,Result.andThen_ok,MapKept.run_getObj_map hb,Sem.run_pure,hc,hr,hz]
    rfl
  · obtain ⟨p,hp⟩:=hv e (List.mem_of_getElem? h2)
    refine ⟨p,?_⟩
    have hr:=MapKept.run_findKey (w:=w) t3I h1
    rw [dc_t ((mi_mem he x).1 ⟨e,List.mem_of_getElem? h2,h3⟩)]
    unfold Instr.lookup
    simp only [Sem.run_bind,run_underlying tMI,Result.andThen_ok,MapKept.run_getObj_map hb,Sem.run_pure,hc,hr]
    rw [hp]
    rfl
theorem run_lookN (w : World) (x : Int) : (Instr.lookup 100 (.map none) (.int .i64 x) true).run Tryz.prog w = .ok (.tuple #[.int .i64 0,.bool false]) w:=by kernel_rfl
theorem run_makeI (w : World) : (Instr.makeMap 100 none).run Tryz.prog w = .ok (.map (some w.heap.size)) (w.alloc (.map #[] 0)):=by kernel_rfl
def setB (w : World) (M : Nat) (o : Obj) : World:={ w with heap:=w.heap.setIfInBounds M o }
theorem setB_ne (w : World) (M : Nat) (o : Obj) (b : Nat) (h : b ≠ M) : (setB w M o).heap[b]? = w.heap[b]?:=by
  unfold setB
  show (w.heap.setIfInBounds M o)[b]? = _
  rw [Array.getElem?_setIfInBounds,if_neg (fun e=>h e.symm)]
theorem run_updI {w : World} {M : Nat} {L : List Int} (h : Mi w M L) (x t : Int) (hn : x ∉ L) : ∃ o,(Instr.mapUpdate 100 (.map (some M)) (.int .i64 x) (.int .i64 t)).run Tryz.prog w = .ok () (setB w M o) ∧ Mi (setB w M o) M (L ++ [x]):=by
  obtain ⟨es,clock,hb,he,hv⟩:=h
  have hk : MapKept.IsKey (.int .i64) (.int .i64 x):=rfl
  have hc:=MapKept.run_checkKey (w:=w) t3I hk
  rcases MapKept.findNow_spec hk es.toList 0 (mi_key he) with ⟨h1,h2⟩ | ⟨j,e,h1,h2,h3⟩
  · have hr:=MapKept.run_findKey (w:=w) t3I h1
    refine ⟨.map (es.push { key:=.int .i64 x,val:=.int .i64 t,born:=clock }) (clock + 1),?_,?_⟩
    · unfold Instr.mapUpdate
      simp only [Sem.run_bind,run_underlying tMI,Result.andThen_ok,MapKept.run_getObj_map hb,hc,hr,MapKept.run_setObj_map _ hb]
      rfl
    · refine ⟨_,_,(MapKept.heap_set hb).1,?_,?_⟩
      · simp [he]
      · intro e hm
        simp at hm
        rcases hm with hm | rfl
        · exact hv e (by simpa using hm)
        · exact ⟨t,rfl⟩
  · exact absurd ((mi_mem he x).1 ⟨e,List.mem_of_getElem? h2,h3⟩) hn
theorem Mi.on {a w : World} {M : Nat} {L : List Int} (h : Mi a M L) (k : w.heap[M]? = a.heap[M]?) : Mi w M L:=by
  obtain ⟨es,clock,hb,he⟩:=h
  exact ⟨es,clock,k.trans hb,he⟩
theorem Mi.new (w : World) : Mi (w.alloc (.map #[] 0)) w.heap.size []:=⟨#[],0,(MapKept.heap_alloc w _).1,rfl,by simp⟩
def iv (L : List Int) : List Value:=L.map (fun x=>Value.int .i64 x)
structure Zt (S o : Nat) (L : List Int) (v m : Value) (W : World) : Prop where
  c0 : W.cell? ⟨S,o,none⟩ = some v
  c1 : W.cell? ⟨S,o + 1,none⟩ = some m
  fz : ∀ j,W.frozen? ⟨S,j,none⟩ = false
  row : W.ownsRow 0 3 1 v L.length (iv L)
  mp : (L = [] ∧ m = .map none) ∨ ∃ M,m = .map (some M) ∧ Mi W M L
  ne : v.ownBlock ≠ some S
structure Ks (S o : Nat) (v m v' m' : Value) (w w' : World) : Prop where
  os : w'.os = w.os
  output : w'.output = w.output
  size : w.heap.size ≤ w'.heap.size
  block : ∀ k,k < w.heap.size → k ≠ S → v.ownBlock ≠ some k → m ≠ .map (some k) → w'.heap[k]? = w.heap[k]?
  cells : ∀ j,j ≠ o → j ≠ o + 1 → w'.cell? ⟨S,j,none⟩ = w.cell? ⟨S,j,none⟩
  hv : ∀ k,v'.ownBlock = some k → v.ownBlock = some k ∨ w.heap.size ≤ k
  hm : ∀ k,m' = .map (some k) → m = .map (some k) ∨ w.heap.size ≤ k
theorem Ks.refl (S o : Nat) (v m : Value) (w : World) : Ks S o v m v m w w:=⟨rfl,rfl,Nat.le_refl _,fun _ _ _ _ _=>rfl,fun _ _ _=>rfl,fun _ h=>.inl h,fun _ h=>.inl h⟩
theorem Ks.trans {S o : Nat} {v m v1 m1 v2 m2 : Value} {a b c : World} (h : Ks S o v m v1 m1 a b) (k : Ks S o v1 m1 v2 m2 b c) : Ks S o v m v2 m2 a c:=by
  have h0:=h.size
  refine ⟨k.os.trans h.os,k.output.trans h.output,Nat.le_trans h.size k.size,fun i hi h1 h2 h3=>?_,fun j h1 h2=>(k.cells j h1 h2).trans (h.cells j h1 h2),fun i hi=>?_,fun i hi=>?_⟩
  · refine (k.block i (by omega) h1 (fun e=>?_) (fun e=>?_)).trans (h.block i hi h1 h2 h3)
    · rcases h.hv i e with q | q
      · exact h2 q
      · omega
    · rcases h.hm i e with q | q
      · exact h3 q
      · omega
  · rcases k.hv i hi with q | q
    · exact h.hv i q
    · exact .inr (by omega)
  · rcases k.hm i hi with q | q
    · exact h.hm i q
    · exact .inr (by omega)
theorem lt_of_obj {W : World} {B : Nat} {o : Obj} (h : W.heap[B]? = some o) : B < W.heap.size:=by
  rcases Nat.lt_or_ge B W.heap.size with g | g
  · exact g
  · rw [Array.getElem?_eq_none g] at h;cases h
theorem rowBlk {W W' : World} {base e size : Nat} {v : Value} {n : Nat} {xs : List Value} (h : W.ownsRow base e size v n xs) (hk : ∀ g,v.ownBlock = some g → W'.heap[g]? = W.heap[g]?) : W'.ownsRow base e size v n xs:=by
  refine ⟨h.1,?_⟩
  rcases h.2 with h | ⟨g,cap,cur,e1,e2,e3,e4⟩
  · exact .inl h
  · exact .inr ⟨g,cap,cur,e1,e2,(hk g (by rw [e1];rfl)).trans e3,e4⟩
theorem map_cells {W : World} {M S j : Nat} {L : List Int} {v : Value} (h : Mi W M L) (hc : W.cell? ⟨S,j,none⟩ = some v) : M ≠ S:=by
  rintro rfl
  obtain ⟨es,clock,hb,_⟩:=h
  simp [World.cell?,hb] at hc
theorem map_row {W : World} {M g n : Nat} {L : List Int} {v : Value} {xs : List Value} (h : Mi W M L) (hr : W.ownsRow 0 3 1 v n xs) (hg : v.ownBlock = some g) : M ≠ g:=by
  rintro rfl
  obtain ⟨es,clock,hb,_⟩:=h
  rcases hr.2 with ⟨rfl,_⟩ | ⟨g',cap,cur,e1,e2,e3,e4⟩
  · cases hg
  · have e : g' = M:=by rw [e1] at hg;simpa [Value.ownBlock] using hg
    subst e
    rw [e3] at hb;cases hb
theorem Zt.on {S o : Nat} {L : List Int} {v m : Value} {W W' : World} (h : Zt S o L v m W) (k : Kb 0 W W') : Zt S o L v m W':=by
  refine ⟨k.cell h.c0,k.cell h.c1,fun j=>(k.frozen (Nat.zero_le _) (lt_of_cell' h.c0)).trans (h.fz j),rowBlk h.row (fun g e=>k.block g (Nat.zero_le _) (h.row.lt g e).2),?_,h.ne⟩
  rcases h.mp with q | ⟨M,e,hM⟩
  · exact .inl q
  · obtain ⟨es,clock,hb,he⟩:=hM
    exact .inr ⟨M,e,es,clock,(k.block M (Nat.zero_le _) (lt_of_obj hb)).trans hb,he⟩
theorem Zt.shape {S o : Nat} {L : List Int} {v m : Value} {W : World} (h : Zt S o L v m W) : ∃ (ad : Option Addr) (cap : Nat),v = .slice ad L.length cap:=by
  rcases h.row.2 with ⟨rfl,e⟩ | ⟨g,cap,cur,rfl,_⟩
  · exact ⟨none,0,by rw [show L.length = 0 from e]⟩
  · exact ⟨_,cap,rfl⟩
theorem Zt.add {S o M : Nat} {L : List Int} {v v' : Value} {x : Int} {W w7 : World} {ob E : Obj} (h : Zt S o L v (.map (some M)) W) (hM : Mi (setB W M ob) M (L ++ [x])) (ho : w7.ownsRow 0 3 1 v' (L.length + 1) (iv L ++ [.int .i64 x])) (hg : ((setB W M ob).alloc E).grownBy w7 v.ownBlock) (hl : ∀ g, v'.ownBlock = some g → v.ownBlock = some g ∨ g = W.heap.size + 1) :
    w7.cell? ⟨S,o,none⟩ = some v ∧ w7.frozen? ⟨S,o,none⟩ = false ∧ Zt S o (L ++ [x]) v' (.map (some M)) (w7.setCell ⟨S,o,none⟩ v') ∧ Ks S o v (.map (some M)) v' (.map (some M)) W (w7.setCell ⟨S,o,none⟩ v'):=by
  have hMM : Mi W M L:=by
    rcases h.mp with ⟨_,q⟩ | ⟨M',e,hM'⟩
    · cases q
    · have : M = M':=by simpa using e
      subst this;exact hM'
  have hMS : M ≠ S:=map_cells hMM h.c0
  have hSl:=lt_of_cell' h.c0
  have hMl : M < W.heap.size:=by obtain ⟨es,clock,hb,_⟩:=hMM;exact lt_of_obj hb
  have hsz : (setB W M ob).heap.size = W.heap.size:=by unfold setB;simp
  have hSl' : S < W.heap.size:=hSl
  have hblk : ∀ k,k < W.heap.size → k ≠ M → v.ownBlock ≠ some k → w7.heap[k]? = W.heap[k]?:=fun k hk hkM hne=>by
    rw [hg.block k (by rw [World.size_alloc,hsz];omega) (fun e=>hne e.symm),Below.heap_alloc _ _ _ (by rw [hsz];omega)]
    exact setB_ne _ _ _ _ hkM
  have hS7 : w7.heap[S]? = W.heap[S]?:=hblk S hSl' (fun e=>hMS e.symm) h.ne
  have hv'S : ∀ g,v'.ownBlock = some g → g ≠ S:=fun g e=>by
    rcases hl g e with q | q
    · rintro rfl;exact h.ne q
    · omega
  have hM7 : w7.heap[M]? = (setB W M ob).heap[M]?:=by
    rw [hg.block M (by rw [World.size_alloc,hsz];omega) (fun e=>map_row hMM h.row e.symm rfl),Below.heap_alloc _ _ _ (by rw [hsz];omega)]
  have hse : ∀ k,k ≠ S → (w7.setCell ⟨S,o,none⟩ v').heap[k]? = w7.heap[k]?:=fun k hne=>Below.heap_setCell w7 _ _ _ hne
  have hc7 : w7.cell? ⟨S,o,none⟩ = some v:=(World.cell?_of_block hS7).trans h.c0
  have hf7 : ∀ j,w7.frozen? ⟨S,j,none⟩ = false:=fun j=>(World.frozen?_of_block hS7).trans (h.fz j)
  have hgs:=hg.size
  rw [World.size_alloc,hsz] at hgs
  refine ⟨hc7,hf7 o,⟨set_eq _ _ _ _ _ hc7,?_,fun j=>(set_fz _ _ _ _ _).trans (hf7 j),?_,.inr ⟨M,rfl,hM.on ((hse M hMS).trans hM7)⟩,fun e=>hv'S S e rfl⟩,⟨?_,?_,by rw [World.size_setCell];omega,fun k hk h1 h2 h3=>?_,fun j h1 h2=>?_,fun k hk=>?_,fun k hk=>.inl hk⟩⟩
  · rw [set_ne _ _ _ _ _ (by omega)]
    exact (World.cell?_of_block hS7).trans h.c1
  · rw [List.length_append]
    refine rowBlk (W:=w7) ?_ (fun g e=>hse g (hv'S g e))
    unfold iv at ho ⊢
    simpa using ho
  · exact hg.os
  · exact hg.output
  · rw [hse k h1]
    exact hblk k hk (fun e=>h3 (by rw [e])) h2
  · rw [set_ne _ _ _ _ _ h1]
    exact World.cell?_of_block hS7
  · rcases hl k hk with q | q
    · exact .inl q
    · exact .inr (by omega)
theorem infoI : (Tryz.prog.info? 3).map (fun i=>(i.zero,i.size,i.bytes)) = some (some (.int .i64 0),1,8):=by kernel_rfl
theorem im_has {S o : Nat} {L : List Int} {v m : Value} (x : Int) (w : World) (h : Zt S o L v m w) : Calls Tryz.prog 111 #[.pointer (some ⟨S,o,none⟩),.int .i64 x] w fun e w'=>e = .returned (.bool (dc (x ∈ L))) ∧ w' = w:=by
  have c1:=h.c1
  obtain ⟨p,hl⟩ : ∃ p : Int,(Instr.lookup 100 m (.int .i64 x) true).run Tryz.prog w = .ok (.tuple #[.int .i64 p,.bool (dc (x ∈ L))]) w:=by
    rcases h.mp with ⟨rfl,rfl⟩ | ⟨M,rfl,hM⟩
    · rw [dc_f (by simp)];exact ⟨0,run_lookN w x⟩
    · exact run_lookI hM x
  have hmv : ∃ b,m = .map b:=by
    rcases h.mp with ⟨rfl,rfl⟩ | ⟨M,rfl,hM⟩ <;> exact ⟨_,rfl⟩
  obtain ⟨b,rfl⟩:=hmv
  clear h
  generalize dc (x ∈ L) = z at *
  go_enter Tryz.func111,Tryz.ntmps111
  go_wp2_with fail
  go_ret
  exact ⟨rfl,rfl⟩
end Go.Proofs.YtnmeemjoodoalaaGreatDoor.Fo
