import Derived.Test.YtnmeemjoodoalaaGreatDoorMChf
set_option maxHeartbeats 16000000
namespace Go.Proofs.YtnmeemjoodoalaaGreatDoor.Fo
open Go.ChangeShapes Go.WideShapes Go.ChangeAt Go.RowKit
set_option linter.unusedVariables false
set_option maxRecDepth 100000
theorem im_shape {va : Value} {nf : Nat} {F : Nat → Pd} (w : World) (hgd : Gd w) (ha : RowP 0 w va nf F) (hb : Bd nf F) :
    Calls Tryz.prog 23 #[.agg #[va]] w fun e w'=>∃ c f n : Nat,e = .returned (.agg #[.int .i64 (c : Int),.int .i64 (f : Int),.int .i64 (n : Int)]) ∧ Ans 7 nf F c f n ∧ Kb 0 w w':=by
  have ha0:=ha
  obtain ⟨pa,ca,rfl,ha2⟩:=ha
  have hnI : (nf : Int) ≤ 1048576:=by have:=hb.hnp;omega
  obtain ⟨w2,hw2⟩ : ∃ w2,w2 = (w.alloc (.cells #[.slice pa nf ca] 30)).alloc (.cells #[.int .i64 0,.int .i64 0,.int .i64 0] 42):=⟨_,rfl⟩
  have k2 : Kb 0 w w2:=by rw [hw2];exact kb_alloc2 _ _ _ _
  have b0 : w2.heap[w.heap.size]? = some (.cells #[.slice pa nf ca] 30 (0,0)):=by
    rw [hw2,(kb_alloc 0 _ _).block _ (Nat.zero_le _) (by rw [World.size_alloc];omega)]
    exact alloc_new _ _ _
  have b1 : w2.heap[w.heap.size + 1]? = some (.cells #[.int .i64 0,.int .i64 0,.int .i64 0] 42 (0,0)):=by
    have e : (w.alloc (.cells #[.slice pa nf ca] 30)).heap.size = w.heap.size + 1:=World.size_alloc _ _
    rw [hw2,← e]
    exact alloc_new _ _ _
  have sz2 : w2.heap.size = w.heap.size + 2:=by rw [hw2];simp
  have HRES : Hid (∀ W,Kb 0 w2 W → W.cell? ⟨w.heap.size + 1,0,none⟩ = some (.int .i64 0) ∧ W.cell? ⟨w.heap.size + 1,1,none⟩ = some (.int .i64 0) ∧ W.cell? ⟨w.heap.size + 1,2,none⟩ = some (.int .i64 0) ∧ (∀ j,W.frozen? ⟨w.heap.size + 1,j,none⟩ = false) ∧ Kb 0 w W ∧ w.heap.size + 1 < W.heap.size):=(fun W k=>by
    have:=k.size
    exact ⟨k.cell (cell_of b1 rfl),k.cell (cell_of b1 rfl),k.cell (cell_of b1 rfl),fun j=>(k.frozen (Nat.zero_le _) (by omega)).trans (frozen_of b1),k2.trans k,by omega⟩ : ∀ W,_)
  have HBOX : Hid (∀ W,Kb 0 w2 W → W.cell? ⟨w.heap.size,0,none⟩ = some (.slice pa nf ca)):=(fun W k=>k.cell (cell_of b0 rfl) : ∀ W,_)
  have HSZ : Hid (Calls Tryz.prog 45 #[.agg #[.slice pa nf ca]] w2 fun e w'=>e = .returned (.bool (dc (Szu nf F))) ∧ Kb 0 w2 w'):=(by obtain ⟨pa',ca',e,h⟩:=ha0.keep k2;obtain ⟨rfl,-,rfl⟩ : pa = pa' ∧ nf = nf ∧ ca = ca':=(by simpa using e);exact im_sized w2 h hb)
  have HFN : Hid ((0 < nf → ∃ a : Addr,pa = some a ∧ nf ≤ ca ∧ 0 ≤ a.block ∧ ∀ i,i < nf → ProC 0 w (a.add (i * 9)) (F i)) ∧ Bd nf F ∧ w2.heap.size = w.heap.size + 2 ∧ Kb 0 w w2):=(⟨ha2,hb,sz2,k2⟩ : _ ∧ _)
  have HW : Hid (w2 = (w.alloc (.cells #[.slice pa nf ca] 30)).alloc (.cells #[.int .i64 0,.int .i64 0,.int .i64 0] 42)):=hw2
  have u0 : w2.cell? ⟨w.heap.size,0,none⟩ = some (.slice pa nf ca):=cell_of b0 rfl
  rw [hw2] at u0
  clear ha2 ha0 hb hw2 k2 b0 b1 sz2
  by_cases hz : Szu nf F
  case neg =>
    have HAN : Hid (Ans 7 nf F 1 0 0):=.inl ⟨rfl,rfl,rfl,hz⟩
    rw [dc_f hz] at HSZ
    clear hz
    go_enter Tryz.func23,Tryz.ntmps23
    go_wp2_with fail
    rw [← (show w2 = _ from HW)]
    clear HW u0
    refine (show Calls Tryz.prog 45 _ w2 _ from HSZ).mono ?_
    rintro e w3 ⟨rfl,k3⟩
    obtain ⟨r0,r1,r2,fr,kk,hlt⟩:=(show ∀ W,Kb 0 w2 W → W.cell? ⟨w.heap.size + 1,0,none⟩ = some (.int .i64 0) ∧ W.cell? ⟨w.heap.size + 1,1,none⟩ = some (.int .i64 0) ∧ W.cell? ⟨w.heap.size + 1,2,none⟩ = some (.int .i64 0) ∧ (∀ j,W.frozen? ⟨w.heap.size + 1,j,none⟩ = false) ∧ Kb 0 w W ∧ w.heap.size + 1 < W.heap.size from HRES) w3 k3
    have HKW : Hid (Kb 0 w w3):=kk
    clear kk k3 HRES HBOX HSZ HFN
    go_wp2_with fail
    refine bodyPost_ret (by simp [results,Tryz.results23,go_sem,r0,r1,r2];rfl) rfl ?_
    exact ⟨1,0,0,rfl,HAN,(((show Kb 0 w w3 from HKW).setCell ⟨w.heap.size + 1,0,none⟩ (Or.inr (by show w.heap.size ≤ w.heap.size + 1;omega)) _).setCell ⟨w.heap.size + 1,1,none⟩ (Or.inr (by show w.heap.size ≤ w.heap.size + 1;omega)) _).setCell ⟨w.heap.size + 1,2,none⟩ (Or.inr (by show w.heap.size ≤ w.heap.size + 1;omega)) _⟩
  have hn0 : 0 < nf:=hz.1
  rw [dc_t hz] at HSZ
  have HZ : Hid (Szu nf F):=hz
  clear hz
  go_enter Tryz.func23,Tryz.ntmps23
  go_wp2_with fail
  rw [← (show w2 = _ from HW)]
  clear HW u0
  refine (show Calls Tryz.prog 45 _ w2 _ from HSZ).mono ?_
  rintro e w3 ⟨rfl,k3⟩
  have u3:=(show ∀ W,Kb 0 w2 W → W.cell? ⟨w.heap.size,0,none⟩ = some (.slice pa nf ca) from HBOX) w3 k3
  have HK3 : Hid (Kb 0 w2 w3):=k3
  clear k3 HSZ
  go_wp2_with fail
  obtain ⟨w5,hw5⟩ : ∃ w5,w5 = (w3.alloc (.cells #[.slice pa nf ca,.slice none 0 0,.map none] 104)).alloc (.cells #[.int .i64 2,.func (Fn.func 46) #[.pointer (some ⟨w3.heap.size,0,none⟩)] #[],.int .i64 3,.func (Fn.func 47) #[.pointer (some ⟨w3.heap.size,0,none⟩)] #[],.int .i64 4,.func (Fn.func 48) #[.pointer (some ⟨w3.heap.size,0,none⟩)] #[],.int .i64 5,.func (Fn.func 49) #[.pointer (some ⟨w3.heap.size,0,none⟩)] #[],.int .i64 6,.func (Fn.func 50) #[.pointer (some ⟨w3.heap.size,0,none⟩)] #[],.int .i64 7,.func (Fn.func 51) #[.pointer (some ⟨w3.heap.size,0,none⟩)] #[]] 106):=⟨_,rfl⟩
  rw [← hw5]
  obtain ⟨hfn0,hb,sz2,k2⟩:=(show (0 < nf → ∃ a : Addr,pa = some a ∧ nf ≤ ca ∧ 0 ≤ a.block ∧ ∀ i,i < nf → ProC 0 w (a.add (i * 9)) (F i)) ∧ Bd nf F ∧ w2.heap.size = w.heap.size + 2 ∧ Kb 0 w w2 from HFN)
  obtain ⟨A,rfl,hca,-,hfn⟩:=hfn0 hn0
  have k3:=(show Kb 0 w2 w3 from HK3)
  obtain ⟨B,hB⟩ : ∃ B,B = w3.heap.size:=⟨_,rfl⟩
  rw [← hB]
  have z5 : w5.heap.size = B + 2:=by rw [hw5,hB];simp
  have k5 : Kb 0 w3 w5:=by rw [hw5];exact kb_alloc2 _ _ _ _
  have qC : w5.heap[B]? = some (.cells #[.slice (some A) nf ca,.slice none 0 0,.map none] 104 (0,0)):=by
    rw [hw5,hB,(kb_alloc 0 _ _).block _ (Nat.zero_le _) (by rw [World.size_alloc];omega)]
    exact alloc_new _ _ _
  have qR : w5.heap[B + 1]? = some (.cells #[.int .i64 2,.func (Fn.func 46) #[.pointer (some ⟨B,0,none⟩)] #[],.int .i64 3,.func (Fn.func 47) #[.pointer (some ⟨B,0,none⟩)] #[],.int .i64 4,.func (Fn.func 48) #[.pointer (some ⟨B,0,none⟩)] #[],.int .i64 5,.func (Fn.func 49) #[.pointer (some ⟨B,0,none⟩)] #[],.int .i64 6,.func (Fn.func 50) #[.pointer (some ⟨B,0,none⟩)] #[],.int .i64 7,.func (Fn.func 51) #[.pointer (some ⟨B,0,none⟩)] #[]] 106 (0,0)):=by
    have e : (w3.alloc (.cells #[.slice (some A) nf ca,.slice none 0 0,.map none] 104)).heap.size = B + 1:=by rw [hB];exact World.size_alloc _ _
    rw [hw5,← e,hB]
    exact alloc_new _ _ _
  have k25 : Kb 0 w2 w5:=k3.trans k5
  have z25:=k3.size
  have HLOW : Hid (∀ W v m,Ks B 1 (.slice none 0 0) (.map none) v m w5 W → W.cell? ⟨w.heap.size,0,none⟩ = some (.slice (some A) nf ca) ∧ (W.cell? ⟨w.heap.size + 1,0,none⟩ = some (.int .i64 0) ∧ W.cell? ⟨w.heap.size + 1,1,none⟩ = some (.int .i64 0) ∧ W.cell? ⟨w.heap.size + 1,2,none⟩ = some (.int .i64 0) ∧ (∀ j,W.frozen? ⟨w.heap.size + 1,j,none⟩ = false)) ∧ Kb 0 w W ∧ w.heap.size + 1 < W.heap.size ∧ B + 1 < W.heap.size ∧ (∀ i,i < 6 → W.cell? ⟨B + 1,i * 2,none⟩ = some (.int .i64 ((i + 2 : Nat) : Int)) ∧ W.cell? ⟨B + 1,i * 2 + 1,none⟩ = some (.func (Fn.func (mfn (i + 2))) #[.pointer (some ⟨B,0,none⟩)] #[]))):=(fun W v m ks=>by
    have lo : ∀ k,k < w5.heap.size → k ≠ B → W.heap[k]? = w5.heap[k]?:=fun k hk hne=>ks.block k hk hne (by simp [Value.ownBlock]) (by simp)
    have hsz:=ks.size
    have kx : ∀ {W2 : World},W2.heap.size ≤ B → Kb 0 W2 w5 → Kb 0 W2 W:=fun {W2} hb2 kb=>⟨ks.os.trans kb.os,ks.output.trans kb.output,by have:=kb.size;omega,fun k _ hk=>(lo k (by omega) (by omega)).trans (kb.block k (Nat.zero_le _) hk)⟩
    obtain ⟨r0,r1,r2,fr,kk,hlt⟩:=(show ∀ W,Kb 0 w2 W → W.cell? ⟨w.heap.size + 1,0,none⟩ = some (.int .i64 0) ∧ W.cell? ⟨w.heap.size + 1,1,none⟩ = some (.int .i64 0) ∧ W.cell? ⟨w.heap.size + 1,2,none⟩ = some (.int .i64 0) ∧ (∀ j,W.frozen? ⟨w.heap.size + 1,j,none⟩ = false) ∧ Kb 0 w W ∧ w.heap.size + 1 < W.heap.size from HRES) W (kx (by omega) k25)
    have u0:=(show ∀ W,Kb 0 w2 W → W.cell? ⟨w.heap.size,0,none⟩ = some (.slice (some A) nf ca) from HBOX) W (kx (by omega) k25)
    refine ⟨u0,⟨r0,r1,r2,fr⟩,kk,hlt,by omega,fun i hi=>?_⟩
    have qW:=(lo (B + 1) (by omega) (by omega)).trans qR
    rcases (show i = 0 ∨ i = 1 ∨ i = 2 ∨ i = 3 ∨ i = 4 ∨ i = 5 by omega) with rfl | rfl | rfl | rfl | rfl | rfl <;> exact ⟨cell_of qW rfl,cell_of qW rfl⟩ : ∀ W v m,_)
  have H0 : Hid (∃ L v m,Cst w A nf ca B F (0 + 2) 0 L v m w5 ∧ Ks B 1 (.slice none 0 0) (.map none) v m w5 w5 ∧ (0 + 2 ≤ 6 → L = []) ∧ ∀ c',2 ≤ c' → c' < 0 + 2 → La (PQ F nf c') (LQ F c') nf):=(⟨[],.slice none 0 0,.map none,⟨k2.trans k25,cell_of qC rfl,by omega,⟨cell_of qC rfl,cell_of qC rfl,fun j=>frozen_of qC,World.ownsRow_nil _ _ _ _,.inl ⟨rfl,rfl⟩,fun e=>by cases e⟩,⟨fun k e=>(by cases e),fun k e=>(by cases e)⟩,fun e=>by omega,fun e=>by omega,fun e=>by omega⟩,Ks.refl _ _ _ _ _,fun _=>rfl,fun c' h1 h2=>by omega⟩ : ∃ L v m,_)
  have HF : Hid (Gd w ∧ (∀ i,i < nf → ProC 0 w (A.add (i * 9)) (F i)) ∧ Bd nf F ∧ Szu nf F):=(⟨hgd,hfn,hb,HZ⟩ : _ ∧ _)
  clear hw5 hfn0 hb sz2 k2 hca hfn k3 hB z5 k5 qC qR k25 z25 HRES HBOX HFN HK3 HZ u3
  clear w3 w2
  go_loopw [29] (fun s33 wr=>∃ i : Nat,s33 = .int .i64 (i : Int) ∧ i ≤ 6 ∧ Hid (∃ L v m,Cst w A nf ca B F (i + 2) 0 L v m wr ∧ Ks B 1 (.slice none 0 0) (.map none) v m w5 wr ∧ (i + 2 ≤ 6 → L = []) ∧ ∀ c',2 ≤ c' → c' < i + 2 → La (PQ F nf c') (LQ F c') nf)) (fun s33 _=>6 - (intOf s33).toNat)
  case atStart=>exact ⟨0,rfl,by omega,H0⟩
  case round =>
    clear H0
    obtain ⟨i,rfl,hi8,HX⟩:=hrel
    obtain ⟨L,v,m,st,ks,hL,hla⟩:=(show ∃ L v m,Cst w A nf ca B F (i + 2) 0 L v m wr ∧ Ks B 1 (.slice none 0 0) (.map none) v m w5 wr ∧ (i + 2 ≤ 6 → L = []) ∧ ∀ c',2 ≤ c' → c' < i + 2 → La (PQ F nf c') (LQ F c') nf from HX)
    obtain ⟨u0,⟨r0,r1,r2,fr⟩,kk,hlt,hl2,hrow⟩:=(show ∀ W v m,Ks B 1 (.slice none 0 0) (.map none) v m w5 W → W.cell? ⟨w.heap.size,0,none⟩ = some (.slice (some A) nf ca) ∧ (W.cell? ⟨w.heap.size + 1,0,none⟩ = some (.int .i64 0) ∧ W.cell? ⟨w.heap.size + 1,1,none⟩ = some (.int .i64 0) ∧ W.cell? ⟨w.heap.size + 1,2,none⟩ = some (.int .i64 0) ∧ (∀ j,W.frozen? ⟨w.heap.size + 1,j,none⟩ = false)) ∧ Kb 0 w W ∧ w.heap.size + 1 < W.heap.size ∧ B + 1 < W.heap.size ∧ (∀ i,i < 6 → W.cell? ⟨B + 1,i * 2,none⟩ = some (.int .i64 ((i + 2 : Nat) : Int)) ∧ W.cell? ⟨B + 1,i * 2 + 1,none⟩ = some (.func (Fn.func (mfn (i + 2))) #[.pointer (some ⟨B,0,none⟩)] #[])) from HLOW) wr v m ks
    rcases Nat.lt_or_ge i 6 with h | h
    case inr =>
      have hI : ¬ (i : Int) < 6:=by omega
      obtain ⟨hgd,-,hb,hz⟩:=(show Gd w ∧ (∀ i,i < nf → ProC 0 w (A.add (i * 9)) (F i)) ∧ Bd nf F ∧ Szu nf F from HF)
      have HAN : Hid (Ans 7 nf F 0 0 0):=.inr (.inr ⟨hz,rfl,rfl,rfl,fun c' h1 h2=>hla c' h1 (by omega)⟩)
      have HKW : Hid (Kb 0 w wr):=kk
      clear HX st ks hL hla u0 kk hl2 hrow HLOW HF hb hz
      go_wp2_with fail
      refine bodyPost_ret (by simp [results,Tryz.results23,go_sem,r0,r1,r2];rfl) rfl ?_
      exact ⟨0,0,0,rfl,HAN,(((show Kb 0 w wr from HKW).setCell ⟨w.heap.size + 1,0,none⟩ (Or.inr (by show w.heap.size ≤ w.heap.size + 1;omega)) _).setCell ⟨w.heap.size + 1,1,none⟩ (Or.inr (by show w.heap.size ≤ w.heap.size + 1;omega)) _).setCell ⟨w.heap.size + 1,2,none⟩ (Or.inr (by show w.heap.size ≤ w.heap.size + 1;omega)) _⟩
    have hI : (i : Int) < 6:=by omega
    obtain ⟨q0,q1⟩:=hrow i h
    obtain ⟨c,hc⟩ : ∃ c,c = i + 2:=⟨_,rfl⟩
    rw [← hc] at q0 q1
    obtain ⟨wo,rfl⟩ : ∃ wo,wo = wr:=⟨_,rfl⟩
    have u0a : ∀ o,(wo.alloc o).cell? ⟨w.heap.size,0,none⟩ = some (.slice (some A) nf ca):=fun o=>(kb_alloc 0 wo o).cell u0
    have hst : ∀ (a : Addr) (n : Nat) (md : Mode) (w : World),(store a (.func (Fn.func n) #[.pointer (some ⟨B,0,none⟩)] #[]) md).run Tryz.prog w = stored Tryz.prog w a (.func (Fn.func n) #[.pointer (some ⟨B,0,none⟩)] #[]) md:=fun a n md w=>run_store _ _ _ _ _ rfl
    obtain ⟨w6,hw6⟩ : ∃ w6,w6 = wo.alloc (.cells #[.int .i64 (c : Int),.func (Fn.func (mfn c)) #[.pointer (some ⟨B,0,none⟩)] #[]] 106):=⟨_,rfl⟩
    have k6 : Kb 0 wo w6:=by rw [hw6];exact kb_alloc _ _ _
    have qq : w6.heap[wo.heap.size]? = some (.cells #[.int .i64 (c : Int),.func (Fn.func (mfn c)) #[.pointer (some ⟨B,0,none⟩)] #[]] 106 (0,0)):=by rw [hw6];exact alloc_new _ _ _
    have z6 : w6.heap.size = wo.heap.size + 1:=by rw [hw6,World.size_alloc]
    have hBl:=st.lt
    have ks6 : Ks B 1 (.slice none 0 0) (.map none) v m w5 w6:=ks.trans (Ks.of_kb k6 hBl)
    have hvl : ∀ k,v.ownBlock = some k → k < wo.heap.size:=fun k e=>(st.zt.row.lt k e).2
    have hml : ∀ k,m = .map (some k) → k < wo.heap.size:=fun k e=>by
      rcases st.zt.mp with ⟨_,q⟩ | ⟨M,e1,hM⟩
      · rw [q] at e;cases e
      · obtain ⟨es,clock,hb',_⟩:=hM
        rw [e1] at e
        have : M = k:=by simpa using e
        subst this;exact lt_of_obj hb'
    have HQ : Hid (∀ W v' m',Ks B 1 v m v' m' w6 W → (W.cell? ⟨wo.heap.size,0,none⟩ = some (.int .i64 (c : Int)) ∧ W.cell? ⟨wo.heap.size,1,none⟩ = some (.func (Fn.func (mfn c)) #[.pointer (some ⟨B,0,none⟩)] #[])) ∧ Ks B 1 (.slice none 0 0) (.map none) v' m' w5 W):=(fun W v' m' k=>by
      have q:=(k.block wo.heap.size (by omega) (by omega) (fun e=>by have:=hvl _ e;omega) (fun e=>by have:=hml _ e;omega)).trans qq
      exact ⟨⟨cell_of q rfl,cell_of q rfl⟩,ks6.trans k⟩ : ∀ W v' m',_)
    have H1 : Hid (∃ L' v' m',Cst w A nf ca B F c 0 L' v' m' w6 ∧ Ks B 1 v m v' m' w6 w6 ∧ (c ≤ 5 → L' = []) ∧ ∀ g,g < 0 → ∀ t,t < LQ F c g → PQ F nf c g t):=(⟨L,v,m,by rw [hc];exact st.alloc k6,Ks.refl _ _ _ _ _,fun e=>hL (by omega),fun g hg=>by omega⟩ : ∃ L' v' m',_)
    have HLA : Hid (∀ c',2 ≤ c' → c' < c → La (PQ F nf c') (LQ F c') nf):=(fun c' h1 h2=>hla c' h1 (by omega) : ∀ c',_)
    have HCI : Hid (c = i + 2 ∧ i < 6):=(⟨hc,h⟩ : _ ∧ _)
    have HW6 : Hid (w6 = wo.alloc (.cells #[.int .i64 (c : Int),.func (Fn.func (mfn c)) #[.pointer (some ⟨B,0,none⟩)] #[]] 106)):=hw6
    clear HX st ks hL hla r0 r1 r2 fr kk hlt hl2 hrow hc h hw6 k6 qq z6 hBl ks6 hvl hml hi8
    go_wp2_with fail
    rw [← (show w6 = _ from HW6)]
    clear HW6 u0a u0 q0 q1
    generalize wo.heap.size = X at *
    go_loopw [36] (fun s40 wr=>∃ f : Nat,s40 = .int .i64 (f : Int) ∧ f ≤ nf ∧ Hid (∃ L' v' m',Cst w A nf ca B F c f L' v' m' wr ∧ Ks B 1 v m v' m' w6 wr ∧ (c ≤ 5 → L' = []) ∧ ∀ g,g < f → ∀ t,t < LQ F c g → PQ F nf c g t)) (fun s40 _=>nf - (intOf s40).toNat)
    case atStart=>exact ⟨0,rfl,Nat.zero_le _,H1⟩
    case round =>
      clear H1
      obtain ⟨f,rfl,hf,HX⟩:=hrel
      obtain ⟨L1,v1,m1,st,ks,hL,hall⟩:=(show ∃ L' v' m',Cst w A nf ca B F c f L' v' m' wr ∧ Ks B 1 v m v' m' w6 wr ∧ (c ≤ 5 → L' = []) ∧ ∀ g,g < f → ∀ t,t < LQ F c g → PQ F nf c g t from HX)
      obtain ⟨⟨q0,q1⟩,ks5⟩:=(show ∀ W v' m',Ks B 1 v m v' m' w6 W → _ from HQ) wr v1 m1 ks
      obtain ⟨hgd,hfn,hb,hz⟩:=(show Gd w ∧ (∀ i,i < nf → ProC 0 w (A.add (i * 9)) (F i)) ∧ Bd nf F ∧ Szu nf F from HF)
      obtain ⟨hc,h8⟩:=(show c = i + 2 ∧ i < 6 from HCI)
      have hla:=(show ∀ c',2 ≤ c' → c' < c → La (PQ F nf c') (LQ F c') nf from HLA)
      rcases Nat.lt_or_ge f nf with h | h
      case inr =>
        have hfI : ¬ (f : Int) < (nf : Int):=by omega
        have ef : f = nf:=by omega
        have HN : Hid (∃ L v m, Cst w A nf ca B F (i + 1 + 2) 0 L v m wr ∧ Ks B 1 (.slice none 0 0) (.map none) v m w5 wr ∧ (i + 1 + 2 ≤ 6 → L = []) ∧ ∀ c', 2 ≤ c' → c' < i + 1 + 2 → La (PQ F nf c') (LQ F c') nf) := (⟨L1, v1, m1, ⟨st.kb, st.cb, st.hB, st.zt, st.ob, fun e x => by
            rw [hL (by omega)]
            constructor
            · intro q;cases q
            · intro q;exact absurd q (mb_zero F x),fun e x=>by
            have:=st.mak (by omega) x
            rw [ef] at this;exact this,fun e=>by rw [hL (by omega)];exact Nat.zero_le _⟩,ks5,fun e=>hL (by omega),fun c' h1 h2=>by
            by_cases e : c' = c
            · subst e;exact fun g hg t ht=>hall g (by omega) t ht
            · exact hla c' h1 (by omega)⟩ : ∃ L v m,_)
        have hi2 : i + 1 ≤ 6:=by omega
        clear HX st ks hL hall q0 q1 ks5 hfn hb hz hla HLA HF HLOW HQ h ef hc HCI h8
        go_wp2_with fail
        go_roundw
        case rel=>exact ⟨i + 1,by go_num,by omega,HN⟩
        case measure=>simp [intOf];omega
      have hfI : (f : Int) < (nf : Int):=by omega
      have HM:=im_meth (w:=w) (W:=wr) (A:=A) (nf:=nf) (ca:=ca) (B:=B) (c:=c) (f:=f) (F:=F) (L:=L1) (v:=v1) (m:=m1) hgd hfn hb hz (by omega) (by omega) h hla st
      have HM2 : Hid (Calls Tryz.prog (mfn c) #[.pointer (some ⟨B,0,none⟩),.int .i64 (f : Int)] wr _):=HM
      have HB2 : Hid (Ks B 1 v m v1 m1 w6 wr ∧ Ks B 1 (.slice none 0 0) (.map none) v1 m1 w5 wr ∧ (c ≤ 5 → L1 = []) ∧ (∀ g,g < f → ∀ t,t < LQ F c g → PQ F nf c g t) ∧ f < nf ∧ c = i + 2 ∧ i < 6 ∧ Szu nf F):=(⟨ks,ks5,hL,hall,h,hc,h8,hz⟩ : _ ∧ _)
      have hcase : mfn c = 46 ∨ mfn c = 47 ∨ mfn c = 48 ∨ mfn c = 49 ∨ mfn c = 50 ∨ mfn c = 51:=by
        rcases (show c = 2 ∨ c = 3 ∨ c = 4 ∨ c = 5 ∨ c = 6 ∨ c = 7 by omega) with e | e | e | e | e | e
        · subst e;exact .inl rfl
        · subst e;exact .inr (.inl rfl)
        · subst e;exact .inr (.inr (.inl rfl))
        · subst e;exact .inr (.inr (.inr (.inl rfl)))
        · subst e;exact .inr (.inr (.inr (.inr (.inl rfl))))
        · subst e;exact .inr (.inr (.inr (.inr (.inr rfl))))
      clear HM HX st ks hL hall ks5 hfn hb hz hc h8 hla h HCI
      rcases hcase with em | em | em | em | em | em
      · rw [em] at q1 HM2
        clear em
        go_wp2_with fail
        refine (show Calls Tryz.prog 46 #[.pointer (some ⟨B,0,none⟩),.int .i64 (f : Int)] wr _ from HM2).mono ?_
        rintro e w9 ⟨r,rfl,hr,v2,m2,hk,hN⟩
        obtain ⟨ks,ks5,hL,hall,h,hc,h8,hz⟩:=(show Ks B 1 v m v1 m1 w6 wr ∧ Ks B 1 (.slice none 0 0) (.map none) v1 m1 w5 wr ∧ (c ≤ 5 → L1 = []) ∧ (∀ g,g < f → ∀ t,t < LQ F c g → PQ F nf c g t) ∧ f < nf ∧ c = i + 2 ∧ i < 6 ∧ Szu nf F from HB2)
        have k69:=ks.trans hk
        clear q0 q1
        obtain ⟨⟨q0,q1⟩,ks9⟩:=(show ∀ W v' m',Ks B 1 v m v' m' w6 W → _ from HQ) w9 v2 m2 k69
        obtain ⟨u0,⟨r0,r1,r2,fr⟩,kk,hlt,hl2,hrow⟩:=(show ∀ W v m,Ks B 1 (.slice none 0 0) (.map none) v m w5 W → W.cell? ⟨w.heap.size,0,none⟩ = some (.slice (some A) nf ca) ∧ (W.cell? ⟨w.heap.size + 1,0,none⟩ = some (.int .i64 0) ∧ W.cell? ⟨w.heap.size + 1,1,none⟩ = some (.int .i64 0) ∧ W.cell? ⟨w.heap.size + 1,2,none⟩ = some (.int .i64 0) ∧ (∀ j,W.frozen? ⟨w.heap.size + 1,j,none⟩ = false)) ∧ Kb 0 w W ∧ w.heap.size + 1 < W.heap.size ∧ B + 1 < W.heap.size ∧ (∀ i,i < 6 → W.cell? ⟨B + 1,i * 2,none⟩ = some (.int .i64 ((i + 2 : Nat) : Int)) ∧ W.cell? ⟨B + 1,i * 2 + 1,none⟩ = some (.func (Fn.func (mfn (i + 2))) #[.pointer (some ⟨B,0,none⟩)] #[])) from HLOW) w9 v2 m2 ks9
        rcases hr with ⟨rfl,hr⟩ | ⟨n,rfl,hn1,hn2,hn3⟩
        · obtain ⟨L2,st2,hL2⟩:=hN rfl
          have H2 : Hid (∃ L' v' m',Cst w A nf ca B F c (f + 1) L' v' m' w9 ∧ Ks B 1 v m v' m' w6 w9 ∧ (c ≤ 5 → L' = []) ∧ ∀ g,g < f + 1 → ∀ t,t < LQ F c g → PQ F nf c g t):=(⟨L2,v2,m2,st2,k69,fun e=>by rw [hL2 (by omega)];exact hL e,fun g hg t ht=>by
            by_cases e : g = f
            · subst e;exact hr t ht
            · exact hall g (by omega) t ht⟩ : ∃ L' v' m',_)
          have hf2 : f + 1 ≤ nf:=h
          clear HM2 HB2 hk hN ks ks5 hL hall h hc h8 hz k69 q0 q1 ks9 u0 r0 r1 r2 fr kk hlt hl2 hrow hr st2 hL2 HLOW HQ HLA HF
          go_wp2_with fail
          go_roundw
          case rel=>exact ⟨f + 1,by go_num,by omega,H2⟩
          case measure=>simp [intOf];omega
        · have HAN : Hid (Ans 7 nf F c f n):=.inr (.inl ⟨hz,by omega,by omega,⟨h,hn1,hn2,hn3,hall⟩,HLA⟩)
          have HKW : Hid (Kb 0 w w9):=kk
          clear HM2 HB2 hk hN ks ks5 hL hall h hc h8 hz k69 q1 ks9 u0 kk hl2 hrow hn1 hn2 hn3 HLOW HQ HLA HF
          go_wp2_with fail
          refine bodyPost_ret (by simp [results,Tryz.results23,go_sem,r0,r1,r2];rfl) rfl ?_
          exact ⟨c,f,n,rfl,HAN,(((show Kb 0 w w9 from HKW).setCell ⟨w.heap.size + 1,0,none⟩ (Or.inr (by show w.heap.size ≤ w.heap.size + 1;omega)) _).setCell ⟨w.heap.size + 1,1,none⟩ (Or.inr (by show w.heap.size ≤ w.heap.size + 1;omega)) _).setCell ⟨w.heap.size + 1,2,none⟩ (Or.inr (by show w.heap.size ≤ w.heap.size + 1;omega)) _⟩
      · rw [em] at q1 HM2
        clear em
        go_wp2_with fail
        refine (show Calls Tryz.prog 47 #[.pointer (some ⟨B,0,none⟩),.int .i64 (f : Int)] wr _ from HM2).mono ?_
        rintro e w9 ⟨r,rfl,hr,v2,m2,hk,hN⟩
        obtain ⟨ks,ks5,hL,hall,h,hc,h8,hz⟩:=(show Ks B 1 v m v1 m1 w6 wr ∧ Ks B 1 (.slice none 0 0) (.map none) v1 m1 w5 wr ∧ (c ≤ 5 → L1 = []) ∧ (∀ g,g < f → ∀ t,t < LQ F c g → PQ F nf c g t) ∧ f < nf ∧ c = i + 2 ∧ i < 6 ∧ Szu nf F from HB2)
        have k69:=ks.trans hk
        clear q0 q1
        obtain ⟨⟨q0,q1⟩,ks9⟩:=(show ∀ W v' m',Ks B 1 v m v' m' w6 W → _ from HQ) w9 v2 m2 k69
        obtain ⟨u0,⟨r0,r1,r2,fr⟩,kk,hlt,hl2,hrow⟩:=(show ∀ W v m,Ks B 1 (.slice none 0 0) (.map none) v m w5 W → W.cell? ⟨w.heap.size,0,none⟩ = some (.slice (some A) nf ca) ∧ (W.cell? ⟨w.heap.size + 1,0,none⟩ = some (.int .i64 0) ∧ W.cell? ⟨w.heap.size + 1,1,none⟩ = some (.int .i64 0) ∧ W.cell? ⟨w.heap.size + 1,2,none⟩ = some (.int .i64 0) ∧ (∀ j,W.frozen? ⟨w.heap.size + 1,j,none⟩ = false)) ∧ Kb 0 w W ∧ w.heap.size + 1 < W.heap.size ∧ B + 1 < W.heap.size ∧ (∀ i,i < 6 → W.cell? ⟨B + 1,i * 2,none⟩ = some (.int .i64 ((i + 2 : Nat) : Int)) ∧ W.cell? ⟨B + 1,i * 2 + 1,none⟩ = some (.func (Fn.func (mfn (i + 2))) #[.pointer (some ⟨B,0,none⟩)] #[])) from HLOW) w9 v2 m2 ks9
        rcases hr with ⟨rfl,hr⟩ | ⟨n,rfl,hn1,hn2,hn3⟩
        · obtain ⟨L2,st2,hL2⟩:=hN rfl
          have H2 : Hid (∃ L' v' m',Cst w A nf ca B F c (f + 1) L' v' m' w9 ∧ Ks B 1 v m v' m' w6 w9 ∧ (c ≤ 5 → L' = []) ∧ ∀ g,g < f + 1 → ∀ t,t < LQ F c g → PQ F nf c g t):=(⟨L2,v2,m2,st2,k69,fun e=>by rw [hL2 (by omega)];exact hL e,fun g hg t ht=>by
            by_cases e : g = f
            · subst e;exact hr t ht
            · exact hall g (by omega) t ht⟩ : ∃ L' v' m',_)
          have hf2 : f + 1 ≤ nf:=h
          clear HM2 HB2 hk hN ks ks5 hL hall h hc h8 hz k69 q0 q1 ks9 u0 r0 r1 r2 fr kk hlt hl2 hrow hr st2 hL2 HLOW HQ HLA HF
          go_wp2_with fail
          go_roundw
          case rel=>exact ⟨f + 1,by go_num,by omega,H2⟩
          case measure=>simp [intOf];omega
        · have HAN : Hid (Ans 7 nf F c f n):=.inr (.inl ⟨hz,by omega,by omega,⟨h,hn1,hn2,hn3,hall⟩,HLA⟩)
          have HKW : Hid (Kb 0 w w9):=kk
          clear HM2 HB2 hk hN ks ks5 hL hall h hc h8 hz k69 q1 ks9 u0 kk hl2 hrow hn1 hn2 hn3 HLOW HQ HLA HF
          go_wp2_with fail
          refine bodyPost_ret (by simp [results,Tryz.results23,go_sem,r0,r1,r2];rfl) rfl ?_
          exact ⟨c,f,n,rfl,HAN,(((show Kb 0 w w9 from HKW).setCell ⟨w.heap.size + 1,0,none⟩ (Or.inr (by show w.heap.size ≤ w.heap.size + 1;omega)) _).setCell ⟨w.heap.size + 1,1,none⟩ (Or.inr (by show w.heap.size ≤ w.heap.size + 1;omega)) _).setCell ⟨w.heap.size + 1,2,none⟩ (Or.inr (by show w.heap.size ≤ w.heap.size + 1;omega)) _⟩
      · rw [em] at q1 HM2
        clear em
        go_wp2_with fail
        refine (show Calls Tryz.prog 48 #[.pointer (some ⟨B,0,none⟩),.int .i64 (f : Int)] wr _ from HM2).mono ?_
        rintro e w9 ⟨r,rfl,hr,v2,m2,hk,hN⟩
        obtain ⟨ks,ks5,hL,hall,h,hc,h8,hz⟩:=(show Ks B 1 v m v1 m1 w6 wr ∧ Ks B 1 (.slice none 0 0) (.map none) v1 m1 w5 wr ∧ (c ≤ 5 → L1 = []) ∧ (∀ g,g < f → ∀ t,t < LQ F c g → PQ F nf c g t) ∧ f < nf ∧ c = i + 2 ∧ i < 6 ∧ Szu nf F from HB2)
        have k69:=ks.trans hk
        clear q0 q1
        obtain ⟨⟨q0,q1⟩,ks9⟩:=(show ∀ W v' m',Ks B 1 v m v' m' w6 W → _ from HQ) w9 v2 m2 k69
        obtain ⟨u0,⟨r0,r1,r2,fr⟩,kk,hlt,hl2,hrow⟩:=(show ∀ W v m,Ks B 1 (.slice none 0 0) (.map none) v m w5 W → W.cell? ⟨w.heap.size,0,none⟩ = some (.slice (some A) nf ca) ∧ (W.cell? ⟨w.heap.size + 1,0,none⟩ = some (.int .i64 0) ∧ W.cell? ⟨w.heap.size + 1,1,none⟩ = some (.int .i64 0) ∧ W.cell? ⟨w.heap.size + 1,2,none⟩ = some (.int .i64 0) ∧ (∀ j,W.frozen? ⟨w.heap.size + 1,j,none⟩ = false)) ∧ Kb 0 w W ∧ w.heap.size + 1 < W.heap.size ∧ B + 1 < W.heap.size ∧ (∀ i,i < 6 → W.cell? ⟨B + 1,i * 2,none⟩ = some (.int .i64 ((i + 2 : Nat) : Int)) ∧ W.cell? ⟨B + 1,i * 2 + 1,none⟩ = some (.func (Fn.func (mfn (i + 2))) #[.pointer (some ⟨B,0,none⟩)] #[])) from HLOW) w9 v2 m2 ks9
        rcases hr with ⟨rfl,hr⟩ | ⟨n,rfl,hn1,hn2,hn3⟩
        · obtain ⟨L2,st2,hL2⟩:=hN rfl
          have H2 : Hid (∃ L' v' m',Cst w A nf ca B F c (f + 1) L' v' m' w9 ∧ Ks B 1 v m v' m' w6 w9 ∧ (c ≤ 5 → L' = []) ∧ ∀ g,g < f + 1 → ∀ t,t < LQ F c g → PQ F nf c g t):=(⟨L2,v2,m2,st2,k69,fun e=>by rw [hL2 (by omega)];exact hL e,fun g hg t ht=>by
            by_cases e : g = f
            · subst e;exact hr t ht
            · exact hall g (by omega) t ht⟩ : ∃ L' v' m',_)
          have hf2 : f + 1 ≤ nf:=h
          clear HM2 HB2 hk hN ks ks5 hL hall h hc h8 hz k69 q0 q1 ks9 u0 r0 r1 r2 fr kk hlt hl2 hrow hr st2 hL2 HLOW HQ HLA HF
          go_wp2_with fail
          go_roundw
          case rel=>exact ⟨f + 1,by go_num,by omega,H2⟩
          case measure=>simp [intOf];omega
        · have HAN : Hid (Ans 7 nf F c f n):=.inr (.inl ⟨hz,by omega,by omega,⟨h,hn1,hn2,hn3,hall⟩,HLA⟩)
          have HKW : Hid (Kb 0 w w9):=kk
          clear HM2 HB2 hk hN ks ks5 hL hall h hc h8 hz k69 q1 ks9 u0 kk hl2 hrow hn1 hn2 hn3 HLOW HQ HLA HF
          go_wp2_with fail
          refine bodyPost_ret (by simp [results,Tryz.results23,go_sem,r0,r1,r2];rfl) rfl ?_
          exact ⟨c,f,n,rfl,HAN,(((show Kb 0 w w9 from HKW).setCell ⟨w.heap.size + 1,0,none⟩ (Or.inr (by show w.heap.size ≤ w.heap.size + 1;omega)) _).setCell ⟨w.heap.size + 1,1,none⟩ (Or.inr (by show w.heap.size ≤ w.heap.size + 1;omega)) _).setCell ⟨w.heap.size + 1,2,none⟩ (Or.inr (by show w.heap.size ≤ w.heap.size + 1;omega)) _⟩
      · rw [em] at q1 HM2
        clear em
        go_wp2_with fail
        refine (show Calls Tryz.prog 49 #[.pointer (some ⟨B,0,none⟩),.int .i64 (f : Int)] wr _ from HM2).mono ?_
        rintro e w9 ⟨r,rfl,hr,v2,m2,hk,hN⟩
        obtain ⟨ks,ks5,hL,hall,h,hc,h8,hz⟩:=(show Ks B 1 v m v1 m1 w6 wr ∧ Ks B 1 (.slice none 0 0) (.map none) v1 m1 w5 wr ∧ (c ≤ 5 → L1 = []) ∧ (∀ g,g < f → ∀ t,t < LQ F c g → PQ F nf c g t) ∧ f < nf ∧ c = i + 2 ∧ i < 6 ∧ Szu nf F from HB2)
        have k69:=ks.trans hk
        clear q0 q1
        obtain ⟨⟨q0,q1⟩,ks9⟩:=(show ∀ W v' m',Ks B 1 v m v' m' w6 W → _ from HQ) w9 v2 m2 k69
        obtain ⟨u0,⟨r0,r1,r2,fr⟩,kk,hlt,hl2,hrow⟩:=(show ∀ W v m,Ks B 1 (.slice none 0 0) (.map none) v m w5 W → W.cell? ⟨w.heap.size,0,none⟩ = some (.slice (some A) nf ca) ∧ (W.cell? ⟨w.heap.size + 1,0,none⟩ = some (.int .i64 0) ∧ W.cell? ⟨w.heap.size + 1,1,none⟩ = some (.int .i64 0) ∧ W.cell? ⟨w.heap.size + 1,2,none⟩ = some (.int .i64 0) ∧ (∀ j,W.frozen? ⟨w.heap.size + 1,j,none⟩ = false)) ∧ Kb 0 w W ∧ w.heap.size + 1 < W.heap.size ∧ B + 1 < W.heap.size ∧ (∀ i,i < 6 → W.cell? ⟨B + 1,i * 2,none⟩ = some (.int .i64 ((i + 2 : Nat) : Int)) ∧ W.cell? ⟨B + 1,i * 2 + 1,none⟩ = some (.func (Fn.func (mfn (i + 2))) #[.pointer (some ⟨B,0,none⟩)] #[])) from HLOW) w9 v2 m2 ks9
        rcases hr with ⟨rfl,hr⟩ | ⟨n,rfl,hn1,hn2,hn3⟩
        · obtain ⟨L2,st2,hL2⟩:=hN rfl
          have H2 : Hid (∃ L' v' m',Cst w A nf ca B F c (f + 1) L' v' m' w9 ∧ Ks B 1 v m v' m' w6 w9 ∧ (c ≤ 5 → L' = []) ∧ ∀ g,g < f + 1 → ∀ t,t < LQ F c g → PQ F nf c g t):=(⟨L2,v2,m2,st2,k69,fun e=>by rw [hL2 (by omega)];exact hL e,fun g hg t ht=>by
            by_cases e : g = f
            · subst e;exact hr t ht
            · exact hall g (by omega) t ht⟩ : ∃ L' v' m',_)
          have hf2 : f + 1 ≤ nf:=h
          clear HM2 HB2 hk hN ks ks5 hL hall h hc h8 hz k69 q0 q1 ks9 u0 r0 r1 r2 fr kk hlt hl2 hrow hr st2 hL2 HLOW HQ HLA HF
          go_wp2_with fail
          go_roundw
          case rel=>exact ⟨f + 1,by go_num,by omega,H2⟩
          case measure=>simp [intOf];omega
        · have HAN : Hid (Ans 7 nf F c f n):=.inr (.inl ⟨hz,by omega,by omega,⟨h,hn1,hn2,hn3,hall⟩,HLA⟩)
          have HKW : Hid (Kb 0 w w9):=kk
          clear HM2 HB2 hk hN ks ks5 hL hall h hc h8 hz k69 q1 ks9 u0 kk hl2 hrow hn1 hn2 hn3 HLOW HQ HLA HF
          go_wp2_with fail
          refine bodyPost_ret (by simp [results,Tryz.results23,go_sem,r0,r1,r2];rfl) rfl ?_
          exact ⟨c,f,n,rfl,HAN,(((show Kb 0 w w9 from HKW).setCell ⟨w.heap.size + 1,0,none⟩ (Or.inr (by show w.heap.size ≤ w.heap.size + 1;omega)) _).setCell ⟨w.heap.size + 1,1,none⟩ (Or.inr (by show w.heap.size ≤ w.heap.size + 1;omega)) _).setCell ⟨w.heap.size + 1,2,none⟩ (Or.inr (by show w.heap.size ≤ w.heap.size + 1;omega)) _⟩
      · rw [em] at q1 HM2
        clear em
        go_wp2_with fail
        refine (show Calls Tryz.prog 50 #[.pointer (some ⟨B,0,none⟩),.int .i64 (f : Int)] wr _ from HM2).mono ?_
        rintro e w9 ⟨r,rfl,hr,v2,m2,hk,hN⟩
        obtain ⟨ks,ks5,hL,hall,h,hc,h8,hz⟩:=(show Ks B 1 v m v1 m1 w6 wr ∧ Ks B 1 (.slice none 0 0) (.map none) v1 m1 w5 wr ∧ (c ≤ 5 → L1 = []) ∧ (∀ g,g < f → ∀ t,t < LQ F c g → PQ F nf c g t) ∧ f < nf ∧ c = i + 2 ∧ i < 6 ∧ Szu nf F from HB2)
        have k69:=ks.trans hk
        clear q0 q1
        obtain ⟨⟨q0,q1⟩,ks9⟩:=(show ∀ W v' m',Ks B 1 v m v' m' w6 W → _ from HQ) w9 v2 m2 k69
        obtain ⟨u0,⟨r0,r1,r2,fr⟩,kk,hlt,hl2,hrow⟩:=(show ∀ W v m,Ks B 1 (.slice none 0 0) (.map none) v m w5 W → W.cell? ⟨w.heap.size,0,none⟩ = some (.slice (some A) nf ca) ∧ (W.cell? ⟨w.heap.size + 1,0,none⟩ = some (.int .i64 0) ∧ W.cell? ⟨w.heap.size + 1,1,none⟩ = some (.int .i64 0) ∧ W.cell? ⟨w.heap.size + 1,2,none⟩ = some (.int .i64 0) ∧ (∀ j,W.frozen? ⟨w.heap.size + 1,j,none⟩ = false)) ∧ Kb 0 w W ∧ w.heap.size + 1 < W.heap.size ∧ B + 1 < W.heap.size ∧ (∀ i,i < 6 → W.cell? ⟨B + 1,i * 2,none⟩ = some (.int .i64 ((i + 2 : Nat) : Int)) ∧ W.cell? ⟨B + 1,i * 2 + 1,none⟩ = some (.func (Fn.func (mfn (i + 2))) #[.pointer (some ⟨B,0,none⟩)] #[])) from HLOW) w9 v2 m2 ks9
        rcases hr with ⟨rfl,hr⟩ | ⟨n,rfl,hn1,hn2,hn3⟩
        · obtain ⟨L2,st2,hL2⟩:=hN rfl
          have H2 : Hid (∃ L' v' m',Cst w A nf ca B F c (f + 1) L' v' m' w9 ∧ Ks B 1 v m v' m' w6 w9 ∧ (c ≤ 5 → L' = []) ∧ ∀ g,g < f + 1 → ∀ t,t < LQ F c g → PQ F nf c g t):=(⟨L2,v2,m2,st2,k69,fun e=>by rw [hL2 (by omega)];exact hL e,fun g hg t ht=>by
            by_cases e : g = f
            · subst e;exact hr t ht
            · exact hall g (by omega) t ht⟩ : ∃ L' v' m',_)
          have hf2 : f + 1 ≤ nf:=h
          clear HM2 HB2 hk hN ks ks5 hL hall h hc h8 hz k69 q0 q1 ks9 u0 r0 r1 r2 fr kk hlt hl2 hrow hr st2 hL2 HLOW HQ HLA HF
          go_wp2_with fail
          go_roundw
          case rel=>exact ⟨f + 1,by go_num,by omega,H2⟩
          case measure=>simp [intOf];omega
        · have HAN : Hid (Ans 7 nf F c f n):=.inr (.inl ⟨hz,by omega,by omega,⟨h,hn1,hn2,hn3,hall⟩,HLA⟩)
          have HKW : Hid (Kb 0 w w9):=kk
          clear HM2 HB2 hk hN ks ks5 hL hall h hc h8 hz k69 q1 ks9 u0 kk hl2 hrow hn1 hn2 hn3 HLOW HQ HLA HF
          go_wp2_with fail
          refine bodyPost_ret (by simp [results,Tryz.results23,go_sem,r0,r1,r2];rfl) rfl ?_
          exact ⟨c,f,n,rfl,HAN,(((show Kb 0 w w9 from HKW).setCell ⟨w.heap.size + 1,0,none⟩ (Or.inr (by show w.heap.size ≤ w.heap.size + 1;omega)) _).setCell ⟨w.heap.size + 1,1,none⟩ (Or.inr (by show w.heap.size ≤ w.heap.size + 1;omega)) _).setCell ⟨w.heap.size + 1,2,none⟩ (Or.inr (by show w.heap.size ≤ w.heap.size + 1;omega)) _⟩
      · rw [em] at q1 HM2
        clear em
        go_wp2_with fail
        refine (show Calls Tryz.prog 51 #[.pointer (some ⟨B,0,none⟩),.int .i64 (f : Int)] wr _ from HM2).mono ?_
        rintro e w9 ⟨r,rfl,hr,v2,m2,hk,hN⟩
        obtain ⟨ks,ks5,hL,hall,h,hc,h8,hz⟩:=(show Ks B 1 v m v1 m1 w6 wr ∧ Ks B 1 (.slice none 0 0) (.map none) v1 m1 w5 wr ∧ (c ≤ 5 → L1 = []) ∧ (∀ g,g < f → ∀ t,t < LQ F c g → PQ F nf c g t) ∧ f < nf ∧ c = i + 2 ∧ i < 6 ∧ Szu nf F from HB2)
        have k69:=ks.trans hk
        clear q0 q1
        obtain ⟨⟨q0,q1⟩,ks9⟩:=(show ∀ W v' m',Ks B 1 v m v' m' w6 W → _ from HQ) w9 v2 m2 k69
        obtain ⟨u0,⟨r0,r1,r2,fr⟩,kk,hlt,hl2,hrow⟩:=(show ∀ W v m,Ks B 1 (.slice none 0 0) (.map none) v m w5 W → W.cell? ⟨w.heap.size,0,none⟩ = some (.slice (some A) nf ca) ∧ (W.cell? ⟨w.heap.size + 1,0,none⟩ = some (.int .i64 0) ∧ W.cell? ⟨w.heap.size + 1,1,none⟩ = some (.int .i64 0) ∧ W.cell? ⟨w.heap.size + 1,2,none⟩ = some (.int .i64 0) ∧ (∀ j,W.frozen? ⟨w.heap.size + 1,j,none⟩ = false)) ∧ Kb 0 w W ∧ w.heap.size + 1 < W.heap.size ∧ B + 1 < W.heap.size ∧ (∀ i,i < 6 → W.cell? ⟨B + 1,i * 2,none⟩ = some (.int .i64 ((i + 2 : Nat) : Int)) ∧ W.cell? ⟨B + 1,i * 2 + 1,none⟩ = some (.func (Fn.func (mfn (i + 2))) #[.pointer (some ⟨B,0,none⟩)] #[])) from HLOW) w9 v2 m2 ks9
        rcases hr with ⟨rfl,hr⟩ | ⟨n,rfl,hn1,hn2,hn3⟩
        · obtain ⟨L2,st2,hL2⟩:=hN rfl
          have H2 : Hid (∃ L' v' m',Cst w A nf ca B F c (f + 1) L' v' m' w9 ∧ Ks B 1 v m v' m' w6 w9 ∧ (c ≤ 5 → L' = []) ∧ ∀ g,g < f + 1 → ∀ t,t < LQ F c g → PQ F nf c g t):=(⟨L2,v2,m2,st2,k69,fun e=>by rw [hL2 (by omega)];exact hL e,fun g hg t ht=>by
            by_cases e : g = f
            · subst e;exact hr t ht
            · exact hall g (by omega) t ht⟩ : ∃ L' v' m',_)
          have hf2 : f + 1 ≤ nf:=h
          clear HM2 HB2 hk hN ks ks5 hL hall h hc h8 hz k69 q0 q1 ks9 u0 r0 r1 r2 fr kk hlt hl2 hrow hr st2 hL2 HLOW HQ HLA HF
          go_wp2_with fail
          go_roundw
          case rel=>exact ⟨f + 1,by go_num,by omega,H2⟩
          case measure=>simp [intOf];omega
        · have HAN : Hid (Ans 7 nf F c f n):=.inr (.inl ⟨hz,by omega,by omega,⟨h,hn1,hn2,hn3,hall⟩,HLA⟩)
          have HKW : Hid (Kb 0 w w9):=kk
          clear HM2 HB2 hk hN ks ks5 hL hall h hc h8 hz k69 q1 ks9 u0 kk hl2 hrow hn1 hn2 hn3 HLOW HQ HLA HF
          go_wp2_with fail
          refine bodyPost_ret (by simp [results,Tryz.results23,go_sem,r0,r1,r2];rfl) rfl ?_
          exact ⟨c,f,n,rfl,HAN,(((show Kb 0 w w9 from HKW).setCell ⟨w.heap.size + 1,0,none⟩ (Or.inr (by show w.heap.size ≤ w.heap.size + 1;omega)) _).setCell ⟨w.heap.size + 1,1,none⟩ (Or.inr (by show w.heap.size ≤ w.heap.size + 1;omega)) _).setCell ⟨w.heap.size + 1,2,none⟩ (Or.inr (by show w.heap.size ≤ w.heap.size + 1;omega)) _⟩
end Go.Proofs.YtnmeemjoodoalaaGreatDoor.Fo
