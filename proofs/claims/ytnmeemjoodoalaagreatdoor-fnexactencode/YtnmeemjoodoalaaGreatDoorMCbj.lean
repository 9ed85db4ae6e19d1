import Derived.Test.YtnmeemjoodoalaaGreatDoorMCbh
import Derived.Test.YtnmeemjoodoalaaGreatDoorMCbf
import Derived.Deep.Slices
import Derived.SizedLaws
import Derived.Carry
set_option maxHeartbeats 8000000
namespace Go.Proofs.YtnmeemjoodoalaaGreatDoor.Fo
open Go.ChangeShapes Go.WideShapes Go.ChangeAt Go.RowKit
set_option linter.unusedVariables false
set_option maxRecDepth 100000
theorem eq_pros {va vb : Value} {n : Nat} {F : Nat → Pd} (w : World) (ha : RowP 0 w va n F) (hb : RowP 0 w vb n F) (hn : n ≤ 1048576) (hF : ∀ i, i < n → (F i).u ≤ 1048576 ∧ (F i).c ≤ 1048576 ∧ (F i).n ≤ 1048576 ∧ (F i).d ≤ 1048576 ∧ ∀ j, j < (F i).c → ((F i).C j).g < 18446744073709551616) :
    Calls Tryz.prog 27 #[va,vb] w fun e w'=>e = .returned (.bool true) ∧ Kb 0 w w':=by
  obtain ⟨pa,ca,rfl,ha2⟩:=ha
  obtain ⟨pb,cb,rfl,hb2⟩:=hb
  have HA : Hid ((0 < n → ∃ a : Addr,pa = some a ∧ n ≤ ca ∧ 0 ≤ a.block ∧ ∀ i,i < n → ProC 0 w (a.add (i * 9)) (F i)) ∧ (0 < n → ∃ a : Addr,pb = some a ∧ n ≤ cb ∧ 0 ≤ a.block ∧ ∀ i,i < n → ProC 0 w (a.add (i * 9)) (F i)) ∧ (∀ i,i < n → (F i).u ≤ 1048576 ∧ (F i).c ≤ 1048576 ∧ (F i).n ≤ 1048576 ∧ (F i).d ≤ 1048576 ∧ ∀ j,j < (F i).c → ((F i).C j).g < 18446744073709551616)):=(⟨ha2,hb2,hF⟩ : _ ∧ _)
  have hnI : (n : Int) ≤ 1048576:=by omega
  clear ha2 hb2 hn hF
  go_enter Tryz.func27,Tryz.ntmps27
  go_wp2_with fail
  go_loopw [5] (fun s5 wr=>∃ i : Nat,s5 = .int .i64 (i : Int) ∧ i ≤ n ∧ Hid (Kb 0 w wr)) (fun s5 _=>n - (intOf s5).toNat)
  case atStart=>exact ⟨0,rfl,Nat.zero_le _,Kb.refl _ _⟩
  case round =>
    obtain ⟨i,rfl,hin,HB⟩:=hrel
    rcases Nat.lt_or_ge i n with hi | hi
    · have hA:=(show (0 < n → ∃ a : Addr,pa = some a ∧ n ≤ ca ∧ 0 ≤ a.block ∧ ∀ i,i < n → ProC 0 w (a.add (i * 9)) (F i)) ∧ (0 < n → ∃ a : Addr,pb = some a ∧ n ≤ cb ∧ 0 ≤ a.block ∧ ∀ i,i < n → ProC 0 w (a.add (i * 9)) (F i)) ∧ (∀ i,i < n → (F i).u ≤ 1048576 ∧ (F i).c ≤ 1048576 ∧ (F i).n ≤ 1048576 ∧ (F i).d ≤ 1048576 ∧ ∀ j,j < (F i).c → ((F i).C j).g < 18446744073709551616) from HA)
      obtain ⟨qa,rfl,hca,-,hra⟩:=hA.1 (by omega)
      obtain ⟨qb,rfl,hcb,-,hrb⟩:=hA.2.1 (by omega)
      have hiI : (i : Int) < (n : Int):=by omega
      obtain ⟨vu,vc,vn,vd,ca,h1,h2,h3,h4⟩:=(hra i hi).keep (Nat.zero_le _) HB
      obtain ⟨uu,uc,un,ud,cb,h5,h6,h7,h8⟩:=(hrb i hi).keep (Nat.zero_le _) HB
      obtain ⟨y1,y2,y3,y4,y5⟩:=hA.2.2 i hi
      have heq : ∀ W',Kb 0 wr W' → Calls Tryz.prog 65 #[prov (F i) vu vc vn vd,prov (F i) uu uc un ud] W' fun e w'=>e = .returned (.bool true) ∧ Kb 0 W' w':=fun W' k=>eq_pro W' (fun W k2=>eq_ups W (h1.keep (k.trans k2)) (h5.keep (k.trans k2)) y1) (fun W k2=>eq_vals W (h2.keep (k.trans k2)) (h6.keep (k.trans k2)) y2 y5) (fun W k2=>eq_inss W (h3.keep (k.trans k2)) (h7.keep (k.trans k2)) y3) (fun W k2=>eq_nams W (h4.keep (k.trans k2)) (h8.keep (k.trans k2)) y4)
      replace heq : ∀ W',W'.heap = wr.heap → W'.os = wr.os → W'.output = wr.output → Calls Tryz.prog 65 #[prov (F i) vu vc vn vd,prov (F i) uu uc un ud] W' fun e w'=>e = .returned (.bool true) ∧ Kb 0 wr w':=fun W' h0 h1 h2=>by
        have kk : Kb 0 wr W':=⟨h1,h2,by rw [h0];exact Nat.le_refl _,fun k _ _=>by rw [h0]⟩
        refine (heq W' kk).mono ?_
        rintro e w' ⟨rfl,k⟩
        exact ⟨rfl,kk.trans k⟩
      obtain ⟨a0,a1,a2,a3,a4,a5,a6,a7,a8⟩:=ca
      obtain ⟨b0,b1,b2,b3,b4,b5,b6,b7,b8⟩:=cb
      clear hra hrb hA HA h1 h2 h3 h4 h5 h6 h7 h8 y1 y2 y3 y4 y5
      generalize F i = G at *
      obtain ⟨xx,xl,xm,xr,xg,gu,gU,gc,gC,gn,gN,gd,gD⟩:=G
      unfold prov at heq
      dsimp only at a0 a1 a2 a3 a4 b0 b1 b2 b3 b4 heq
      have HKEEP : Hid (∀ (W' : World),Kb 0 wr W' → W'.cell? (qa.add (i * 9)) = some (.string xx) ∧ W'.cell? ⟨(qa.add (i * 9)).block,(qa.add (i * 9)).off + 1,none⟩ = some (.int .i64 xl) ∧ W'.cell? ⟨(qa.add (i * 9)).block,(qa.add (i * 9)).off + 2,none⟩ = some (.int .i64 xm) ∧ W'.cell? ⟨(qa.add (i * 9)).block,(qa.add (i * 9)).off + 3,none⟩ = some (.bool xr) ∧ W'.cell? ⟨(qa.add (i * 9)).block,(qa.add (i * 9)).off + 4,none⟩ = some (.int .i64 xg) ∧ W'.cell? ⟨(qa.add (i * 9)).block,(qa.add (i * 9)).off + 5,none⟩ = some (vu) ∧ W'.cell? ⟨(qa.add (i * 9)).block,(qa.add (i * 9)).off + 6,none⟩ = some (vc) ∧ W'.cell? ⟨(qa.add (i * 9)).block,(qa.add (i * 9)).off + 7,none⟩ = some (vn) ∧ W'.cell? ⟨(qa.add (i * 9)).block,(qa.add (i * 9)).off + 8,none⟩ = some (vd) ∧ W'.cell? (qb.add (i * 9)) = some (.string xx) ∧ W'.cell? ⟨(qb.add (i * 9)).block,(qb.add (i * 9)).off + 1,none⟩ = some (.int .i64 xl) ∧ W'.cell? ⟨(qb.add (i * 9)).block,(qb.add (i * 9)).off + 2,none⟩ = some (.int .i64 xm) ∧ W'.cell? ⟨(qb.add (i * 9)).block,(qb.add (i * 9)).off + 3,none⟩ = some (.bool xr) ∧ W'.cell? ⟨(qb.add (i * 9)).block,(qb.add (i * 9)).off + 4,none⟩ = some (.int .i64 xg) ∧ W'.cell? ⟨(qb.add (i * 9)).block,(qb.add (i * 9)).off + 5,none⟩ = some (uu) ∧ W'.cell? ⟨(qb.add (i * 9)).block,(qb.add (i * 9)).off + 6,none⟩ = some (uc) ∧ W'.cell? ⟨(qb.add (i * 9)).block,(qb.add (i * 9)).off + 7,none⟩ = some (un) ∧ W'.cell? ⟨(qb.add (i * 9)).block,(qb.add (i * 9)).off + 8,none⟩ = some (ud)):=by
        show ∀ (W' : World),_
        intro W' k
        exact ⟨k.cell a0,k.cell a1,k.cell a2,k.cell a3,k.cell a4,k.cell a5,k.cell a6,k.cell a7,k.cell a8,k.cell b0,k.cell b1,k.cell b2,k.cell b3,k.cell b4,k.cell b5,k.cell b6,k.cell b7,k.cell b8⟩
      have HEQ : Hid (∀ W',W'.heap = wr.heap → W'.os = wr.os → W'.output = wr.output → Calls Tryz.prog 65 #[.agg #[.string xx,.int .i64 xl,.int .i64 xm,.bool xr,.int .i64 xg,vu,vc,vn,vd],.agg #[.string xx,.int .i64 xl,.int .i64 xm,.bool xr,.int .i64 xg,uu,uc,un,ud]] W' fun e w'=>e = .returned (.bool true) ∧ Kb 0 wr w'):=heq
      clear hin heq
      go_wp2_with fail
      go_region_held_law (fun W'=>W'.cell? (qa.add (i * 9)) = some (.string xx) ∧ W'.cell? ⟨(qa.add (i * 9)).block,(qa.add (i * 9)).off + 1,none⟩ = some (.int .i64 xl) ∧ W'.cell? ⟨(qa.add (i * 9)).block,(qa.add (i * 9)).off + 2,none⟩ = some (.int .i64 xm) ∧ W'.cell? ⟨(qa.add (i * 9)).block,(qa.add (i * 9)).off + 3,none⟩ = some (.bool xr) ∧ W'.cell? ⟨(qa.add (i * 9)).block,(qa.add (i * 9)).off + 4,none⟩ = some (.int .i64 xg) ∧ W'.cell? ⟨(qa.add (i * 9)).block,(qa.add (i * 9)).off + 5,none⟩ = some (vu) ∧ W'.cell? ⟨(qa.add (i * 9)).block,(qa.add (i * 9)).off + 6,none⟩ = some (vc) ∧ W'.cell? ⟨(qa.add (i * 9)).block,(qa.add (i * 9)).off + 7,none⟩ = some (vn) ∧ W'.cell? ⟨(qa.add (i * 9)).block,(qa.add (i * 9)).off + 8,none⟩ = some (vd) ∧ W'.cell? (qb.add (i * 9)) = some (.string xx) ∧ W'.cell? ⟨(qb.add (i * 9)).block,(qb.add (i * 9)).off + 1,none⟩ = some (.int .i64 xl) ∧ W'.cell? ⟨(qb.add (i * 9)).block,(qb.add (i * 9)).off + 2,none⟩ = some (.int .i64 xm) ∧ W'.cell? ⟨(qb.add (i * 9)).block,(qb.add (i * 9)).off + 3,none⟩ = some (.bool xr) ∧ W'.cell? ⟨(qb.add (i * 9)).block,(qb.add (i * 9)).off + 4,none⟩ = some (.int .i64 xg) ∧ W'.cell? ⟨(qb.add (i * 9)).block,(qb.add (i * 9)).off + 5,none⟩ = some (uu) ∧ W'.cell? ⟨(qb.add (i * 9)).block,(qb.add (i * 9)).off + 6,none⟩ = some (uc) ∧ W'.cell? ⟨(qb.add (i * 9)).block,(qb.add (i * 9)).off + 7,none⟩ = some (un) ∧ W'.cell? ⟨(qb.add (i * 9)).block,(qb.add (i * 9)).off + 8,none⟩ = some (ud)) (first | exact ⟨a0,a1,a2,a3,a4,a5,a6,a7,a8,b0,b1,b2,b3,b4,b5,b6,b7,b8⟩ | exact (show ∀ (W' : World),_ from HKEEP) _ k5)
        ((go_at_call 65;refine ((show ∀ W',W'.heap = wr.heap → W'.os = wr.os → W'.output = wr.output → Calls Tryz.prog 65 #[.agg #[.string xx,.int .i64 xl,.int .i64 xm,.bool xr,.int .i64 xg,vu,vc,vn,vd],.agg #[.string xx,.int .i64 xl,.int .i64 xm,.bool xr,.int .i64 xg,uu,uc,un,ud]] W' fun e w'=>e = .returned (.bool true) ∧ Kb 0 wr w' from HEQ) _ (by exact rfl) (by exact rfl) (by exact rfl)).mono ?_;rintro e w5 ⟨rfl,k5⟩))
      all_goals
        have HB5 : Hid (Kb 0 w w5):=(show Kb 0 w wr from HB).trans k5
        clear HB HKEEP HEQ k5 a0 a1 a2 a3 a4 a5 a6 a7 a8 b0 b1 b2 b3 b4 b5 b6 b7 b8
        go_wp2_with fail
        go_roundw
        case rel=>exact ⟨i + 1,by go_num,by omega,HB5⟩
        case measure=>simp [intOf];omega
    · obtain rfl : i = n:=by omega
      clear HA
      go_wp2_with fail
      go_ret
      exact ⟨rfl,HB⟩
theorem choose_fn {α : Type} [inst : Inhabited α] {n : Nat} {p : Nat → α → Prop} (h : ∀ i,i < n → ∃ a,p i a) : ∃ f : Nat → α,∀ i,i < n → p i (f i):=by
  classical
  refine ⟨fun i=>if hi : i < n then Classical.choose (h i hi) else default,fun i hi=>?_⟩
  simp only [dif_pos hi]
  exact Classical.choose_spec (h i hi)
def BP (F : Nat → Pd) (nf : Nat) : Prop:=∀ i,i < nf → ((F i).x.size : Int) < 140737488355328 ∧ ((F i).u : Int) < 140737488355328 ∧ (((F i).c : Int) < 140737488355328 ∧ ∀ j,j < (F i).c → (((F i).C j).x.size : Int) < 140737488355328) ∧ ((F i).n : Int) < 140737488355328 ∧ (((F i).d : Int) < 140737488355328 ∧ ∀ j,j < (F i).d → (((F i).D j).x.size : Int) < 140737488355328)
def szP (F : Nat → Pd) (i : Nat) : Nat:=(F i).x.size + (F i).u + ((F i).c + sm (fun j=>((F i).C j).x.size) (F i).c) + (F i).n + ((F i).d + sm (fun j=>((F i).D j).x.size) (F i).d)
theorem szd_pros {va : Value} {nf : Nat} {F : Nat → Pd} (w : World) (l : Int) (ha : RowP 0 w va nf F) (hn : (nf : Int) < 140737488355328) (hF : BP F nf) (hl0 : 0 ≤ l) (hl : l ≤ 1048576) :
    Calls Tryz.prog 18 #[va,.int .i64 l] w (Szd (nf + sm (szP F) nf) l w):=by
  obtain ⟨pa,ca,rfl,ha2⟩:=ha
  obtain ⟨V,hV⟩ : ∃ V : Nat → Value × Value × Value × Value,∀ i,i < nf → (∃ a : Addr,pa = some a ∧ nf ≤ ca ∧ CelP w (a.add (i * 9)) (F i) (V i).1 (V i).2.1 (V i).2.2.1 (V i).2.2.2) ∧ RowU 0 w (V i).1 (F i).u (F i).U ∧ RowW 0 w (V i).2.1 (F i).c (F i).C ∧ RowI 0 w (V i).2.2.1 (F i).n (F i).N ∧ RowM 0 w (V i).2.2.2 (F i).d (F i).D:=by
    refine choose_fn (α:=Value × Value × Value × Value) (inst:=⟨(.pointer none,.pointer none,.pointer none,.pointer none)⟩) (n:=nf) (p:=fun i V=>(∃ a : Addr,pa = some a ∧ nf ≤ ca ∧ CelP w (a.add (i * 9)) (F i) V.1 V.2.1 V.2.2.1 V.2.2.2) ∧ RowU 0 w V.1 (F i).u (F i).U ∧ RowW 0 w V.2.1 (F i).c (F i).C ∧ RowI 0 w V.2.2.1 (F i).n (F i).N ∧ RowM 0 w V.2.2.2 (F i).d (F i).D) (fun i hi=>?_)
    obtain ⟨a,e1,e2,-,e3⟩:=ha2 (by omega)
    obtain ⟨vu,vc,vn,vd,c,r,k,m,o⟩:=e3 i hi
    exact ⟨(vu,vc,vn,vd),⟨a,e1,e2,c⟩,r,k,m,o⟩
  refine szr_pros (F:=F) (vu:=fun i=>(V i).1) (vc:=fun i=>(V i).2.1) (vn:=fun i=>(V i).2.2.1) (vd:=fun i=>(V i).2.2.2) (s:=szP F) w l hn ?_ ?_ hl0 hl
  · intro h0
    obtain ⟨a,e1,e2,-,e3⟩:=ha2 h0
    refine ⟨a,e1,e2,fun i hi=>?_⟩
    obtain ⟨⟨a',f1,f2,f3⟩,-⟩:=hV i hi
    have : a' = a:=by rw [e1] at f1;exact (Option.some.inj f1).symm
    rw [← this];exact f3
  · intro i hi W l k l0 l1
    obtain ⟨-,r,kk,mm,oo⟩:=hV i hi
    obtain ⟨y1,y2,y3,y4,y5⟩:=hF i hi
    exact sz_pro W l y1 (fun W' l' k' a b=>szd_ups W' l' ((r.keep k).keep k') y2 a b) (fun W' l' k' a b=>szd_vals W' l' ((kk.keep k).keep k') y3.1 y3.2 a b) (fun W' l' k' a b=>szd_inss W' l' ((mm.keep k).keep k') y4 a b) (fun W' l' k' a b=>szd_nams W' l' ((oo.keep k).keep k') y5.1 y5.2 a b) l0 l1
theorem sz_code {va : Value} {nf : Nat} {F : Nat → Pd} (w : World) (ha : RowP 0 w va nf F) (hn : (nf : Int) < 140737488355328) (hF : BP F nf) :
    Calls Tryz.prog 5 #[.agg #[va],.int .i64 1048576] w (Szd (nf + sm (szP F) nf) 1048576 w):=by
  have hs : Hid (∀ o,Calls Tryz.prog 18 #[va,.int .i64 1048576] (w.alloc o) (Szd (nf + sm (szP F) nf) 1048576 (w.alloc o))):=(fun o=>szd_pros (w.alloc o) 1048576 (ha.keep (kb_alloc _ _ _)) hn hF (by omega) (by omega) : ∀ o,_)
  obtain ⟨pa,ca,rfl,_⟩:=ha
  generalize nf + sm (szP F) nf = S at *
  clear hn hF
  go_enter Tryz.func5,Tryz.ntmps5
  go_wp2_with fail
  refine (hs _).mono ?_
  rintro e w1 ⟨r,rfl,h1,h2,h3,hb⟩
  have HB : Hid ((0 ≤ r → r + (S : Int) ≤ 1048576) ∧ Kb 0 w w1):=(⟨h1,(kb_alloc _ _ _).trans hb⟩ : _ ∧ _)
  clear hs h1 hb
  rcases Int.lt_or_le r 0 with h | h
  · go_wp2_with fail
    go_ret
    exact ⟨-1,rfl,fun f=>by omega,by omega,by omega,HB.2⟩
  · have h' : ¬ r < 0:=by omega
    go_wp2_with fail
    go_ret
    exact ⟨r,rfl,HB.1,h2,h3,HB.2⟩
theorem to_code0 {va : Value} {nf : Nat} {F : Nat → Pd} (w : World)
    (g0 : ∀ W,Kb 0 w W → Calls Tryz.prog 22 #[va] W fun e w'=>∃ v,e = .returned v ∧ RowP W.heap.size w' (v) nf F ∧ Kb 0 W w') :
    Calls Tryz.prog 7 #[.agg #[va]] w fun e w'=>∃ v0,e = .returned (.agg #[v0]) ∧ RowP w.heap.size w' (v0) nf F ∧ Kb 0 w w':=by
  have G0 : Hid (∀ W,Kb 0 w W → Calls Tryz.prog 22 #[va] W fun e w'=>∃ v,e = .returned v ∧ RowP W.heap.size w' (v) nf F ∧ Kb 0 W w'):=g0
  clear g0
  go_enter Tryz.func7,Tryz.ntmps7
  go_wp2_with fail
  obtain ⟨w3,hw3⟩ : ∃ w3,w3 = ((w.alloc (.cells #[va] 24)).alloc (.cells #[.slice none 0 0] 30)).alloc (.cells #[.slice none 0 0] 30):=⟨_,rfl⟩
  rw [← hw3]
  obtain ⟨b0,b1,b2,z3,k3⟩:=three_new w _ _ _ _ _ _ w3 hw3
  clear hw3
  refine ((show ∀ W,Kb 0 w W → Calls Tryz.prog 22 #[va] W fun e w'=>∃ v,e = .returned v ∧ RowP W.heap.size w' (v) nf F ∧ Kb 0 W w' from G0) w3 k3).mono ?_
  rintro e x0 ⟨v0,rfl,r0,q0⟩
  clear G0
  have zq0:=q0.size
  have zz0 : w.heap.size + 3 ≤ w3.heap.size:=by omega
  have b0x0 : x0.heap[w.heap.size]? = some (.cells #[va] 24 (0,0)):=(q0.block _ (Nat.zero_le _) (by omega)).trans b0
  have b1x0 : x0.heap[w.heap.size + 1]? = some (.cells #[.slice none 0 0] 30 (0,0)):=(q0.block _ (Nat.zero_le _) (by omega)).trans b1
  have b2x0 : x0.heap[w.heap.size + 1 + 1]? = some (.cells #[.slice none 0 0] 30 (0,0)):=(q0.block _ (Nat.zero_le _) (by omega)).trans b2
  clear b0 b1 b2
  obtain ⟨p0,l0,rfl,_⟩:=id r0
  have s0:=r0.mono (show w.heap.size + 3 ≤ w3.heap.size by omega)
  have KW:=k3.trans q0
  have e0 : x0.cell? ⟨w.heap.size + 1 + 1,0,none⟩ = some (.slice none 0 0):=cell_of b2x0 rfl
  have fz : x0.frozen? ⟨w.heap.size + 1 + 1,0,none⟩ = false:=frozen_of b2x0
  have a0 : x0.cell? ⟨w.heap.size + 1,0,none⟩ = some (.slice none 0 0):=cell_of b1x0 rfl
  have fy : ∀ j,x0.frozen? ⟨w.heap.size + 1,j,none⟩ = false:=fun j=>frozen_of b1x0
  have HE : Hid (Kb 0 w x0 ∧ RowP (w.heap.size + 3) x0 (.slice p0 nf l0) nf F):=(⟨KW,s0⟩ : _ ∧ _)
  clear KW s0 b0x0 b1x0 b2x0 r0 q0 zq0 zz0 k3 z3
  go_wp2_with fail
  refine bodyPost_ret (by simp [results,Tryz.results7,go_sem,a0];rfl) rfl ?_
  obtain ⟨KW,s0⟩:=(show Kb 0 w x0 ∧ RowP (w.heap.size + 3) x0 (.slice p0 nf l0) nf F from HE)
  clear HE
  have hq:=((Kb.refl (w.heap.size + 3) x0).setCell ⟨w.heap.size + 1 + 1,0,none⟩ (Or.inl (show w.heap.size + 1 + 1 < w.heap.size + 3 by omega)) (.slice p0 nf l0)).setCell ⟨w.heap.size + 1,0,none⟩ (Or.inl (show w.heap.size + 1 < w.heap.size + 3 by omega)) (.slice p0 nf l0)
  have hk:=((KW).setCell ⟨w.heap.size + 1 + 1,0,none⟩ (Or.inr (show w.heap.size ≤ w.heap.size + 1 + 1 by omega)) (.slice p0 nf l0)).setCell ⟨w.heap.size + 1,0,none⟩ (Or.inr (show w.heap.size ≤ w.heap.size + 1 by omega)) (.slice p0 nf l0)
  exact ⟨_,rfl,(s0.keep hq).mono (by omega),hk⟩
theorem eq_code0 {va vb : Value} (w : World)
    (g0 : ∀ W',Kb 0 w W' → Calls Tryz.prog 27 #[va,vb] W' fun e w'=>e = .returned (.bool true) ∧ Kb 0 W' w') :
    Calls Tryz.prog 10 #[.agg #[va],.agg #[vb]] w fun e w'=>e = .returned (.bool true) ∧ Kb 0 w w':=by
  have G0 : Hid (∀ W',Kb 0 w W' → Calls Tryz.prog 27 #[va,vb] W' fun e w'=>e = .returned (.bool true) ∧ Kb 0 W' w'):=g0
  clear g0
  skip
  obtain ⟨w2,hw2⟩ : ∃ w2,w2 = (w.alloc (.cells #[va] 30)).alloc (.cells #[vb] 30):=⟨_,rfl⟩
  have k2 : Kb 0 w w2:=by rw [hw2];exact kb_alloc2 _ _ _ _
  have b0 : w2.heap[w.heap.size]? = some (.cells #[va] 30 (0,0)):=by
    rw [hw2,(kb_alloc 0 _ _).block _ (Nat.zero_le _) (by rw [World.size_alloc];omega)]
    exact alloc_new _ _ _
  have b1 : w2.heap[w.heap.size + 1]? = some (.cells #[vb] 30 (0,0)):=by
    have e : (w.alloc (.cells #[va] 30)).heap.size = w.heap.size + 1:=World.size_alloc _ _
    rw [hw2,← e]
    exact alloc_new _ _ _
  have HK : Hid (Kb 0 w w2 ∧ w2.heap[w.heap.size]? = some (.cells #[va] 30 (0,0)) ∧ w2.heap[w.heap.size + 1]? = some (.cells #[vb] 30 (0,0)) ∧ w.heap.size + 1 < w2.heap.size):=(⟨k2,b0,b1,by rw [hw2];simp⟩ : _ ∧ _)
  have HW : Hid (w2 = (w.alloc (.cells #[va] 30)).alloc (.cells #[vb] 30)):=hw2
  clear hw2 k2 b0 b1
  go_enter Tryz.func10,Tryz.ntmps10
  go_wp2_with fail
  rw [← (show w2 = _ from HW)]
  clear HW
  refine ((show ∀ W',Kb 0 w W' → Calls Tryz.prog 27 #[va,vb] W' fun e w'=>e = .returned (.bool true) ∧ Kb 0 W' w' from G0) w2 HK.1).mono ?_
  rintro e x0 ⟨rfl,k0⟩
  have HL : Hid (Kb 0 w x0 ∧ x0.heap[w.heap.size]? = some (.cells #[va] 30 (0,0)) ∧ x0.heap[w.heap.size + 1]? = some (.cells #[vb] 30 (0,0)) ∧ w.heap.size + 1 < x0.heap.size):=by
    obtain ⟨q1,q2,q3,q4⟩:=(show Kb 0 w w2 ∧ w2.heap[w.heap.size]? = some (.cells #[va] 30 (0,0)) ∧ w2.heap[w.heap.size + 1]? = some (.cells #[vb] 30 (0,0)) ∧ w.heap.size + 1 < w2.heap.size from HK)
    have q5:=k0.size
    exact ⟨q1.trans k0,(k0.block _ (Nat.zero_le _) (by omega)).trans q2,(k0.block _ (Nat.zero_le _) (by omega)).trans q3,by omega⟩
  clear HK
  have HK:=HL
  clear HL k0 G0
  go_wp2_with fail
  go_ret
  exact ⟨rfl,HK.1⟩
end Go.Proofs.YtnmeemjoodoalaaGreatDoor.Fo
