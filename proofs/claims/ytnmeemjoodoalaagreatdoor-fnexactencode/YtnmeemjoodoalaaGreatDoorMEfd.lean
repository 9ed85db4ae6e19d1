import Derived.Test.YtnmeemjoodoalaaGreatDoorMEfc
import Derived.Test.YtnmeemjoodoalaaGreatDoorMBab
set_option maxHeartbeats 8000000
namespace Go.Proofs.YtnmeemjoodoalaaGreatDoor.Fo
open Go.ChangeShapes Go.WideShapes Go.ChangeAt Go.RowKit
set_option linter.unusedVariables false
set_option maxRecDepth 100000
theorem to_prosF {va : Value} {n : Nat} {F : Nat → Pd} (w : World) (ha : RowP 0 w va n F) (hn : n ≤ 1048576) (hF : ∀ i, i < n → (F i).u ≤ 1048576 ∧ (F i).c ≤ 1048576 ∧ (F i).n ≤ 1048576 ∧ (F i).d ≤ 1048576) :
    Calls Tryz.prog 22 #[va] w fun e w'=>∃ v,e = .returned v ∧ RowPF w.heap.size w' v n F ∧ Kb 0 w w':=by
  obtain ⟨pa,ca,rfl,ha2⟩:=ha
  have hnI : (n : Int) ≤ 1048576:=by omega
  have hmk:=run_make (P:=Tryz.prog) w 28 50 Tryz.t50 (.agg #[.string ⟨#[]⟩,.int .i64 0,.int .i64 0,.bool false,.int .i64 0,.slice none 0 0,.slice none 0 0,.slice none 0 0,.slice none 0 0]) Tryz.underlying28 (by kernel_rfl) (by kernel_rfl) .i64 .i64 (n : Int) (n : Int) (by omega) (Int.le_refl _) (by show (144 : Int) * (n : Int) ≤ _;omega) (by omega)
  rw [Int.toNat_natCast] at hmk
  obtain ⟨w1,hw1⟩ : ∃ w1,w1 = w.alloc (.cells (madeCells (.agg #[.string ⟨#[]⟩,.int .i64 0,.int .i64 0,.bool false,.int .i64 0,.slice none 0 0,.slice none 0 0,.slice none 0 0,.slice none 0 0] : Value).cells (n * 9)) 50):=⟨_,rfl⟩
  have hmk2:=hmk
  rw [show n * Tryz.t50.size = n * 9 from rfl,← hw1] at hmk2
  clear hmk
  have hk1 : Kb 0 w w1:=by rw [hw1];exact kb_alloc _ _ _
  obtain ⟨G,hG⟩ : ∃ G,G = w.heap.size:=⟨_,rfl⟩
  have HI0 : Hid (∃ E : Nat → List Value,Mk 9 w1 G n E 0 w1 ∧ ∀ j,j < 0 → ∃ vu vc vn vd,E j = [.string (F j).x,.int .i64 (F j).l,.int .i64 (F j).m,.bool (F j).r,.int .i64 (F j).g,vu,vc,vn,vd] ∧ RowUF (G + 1) w1 vu (F j).u (F j).U ∧ RowWF (G + 1) w1 vc (F j).c (F j).C ∧ RowIF (G + 1) w1 vn (F j).n (F j).N ∧ RowMF (G + 1) w1 vd (F j).d (F j).D):=by
    refine ⟨fun _=>[],?_,fun j hj=>by omega⟩
    rw [hG,hw1]
    exact mk_zero w _ 9 _ n _ rfl
  have HA : Hid ((0 < n → ∃ a : Addr,pa = some a ∧ n ≤ ca ∧ 0 ≤ a.block ∧ ∀ i,i < n → ProC 0 w (a.add (i * 9)) (F i)) ∧ Kb 0 w w1 ∧ G = w.heap.size ∧ (∀ i,i < n → (F i).u ≤ 1048576 ∧ (F i).c ≤ 1048576 ∧ (F i).n ≤ 1048576 ∧ (F i).d ≤ 1048576)):=(⟨ha2,hk1,hG,hF⟩ : _ ∧ _)
  rw [← hG] at hmk2
  clear ha2 hk1 hw1 hn hG hF
  go_enter Tryz.func22,Tryz.ntmps22
  go_wp2_with fail
  go_loopw [4] (fun s4 wr=>∃ i : Nat,s4 = .int .i64 (i : Int) ∧ i ≤ n ∧ Hid (∃ E : Nat → List Value,Mk 9 w1 G n E i wr ∧ ∀ j,j < i → ∃ vu vc vn vd,E j = [.string (F j).x,.int .i64 (F j).l,.int .i64 (F j).m,.bool (F j).r,.int .i64 (F j).g,vu,vc,vn,vd] ∧ RowUF (G + 1) wr vu (F j).u (F j).U ∧ RowWF (G + 1) wr vc (F j).c (F j).C ∧ RowIF (G + 1) wr vn (F j).n (F j).N ∧ RowMF (G + 1) wr vd (F j).d (F j).D)) (fun s4 _=>n - (intOf s4).toNat)
  case atStart=>exact ⟨0,rfl,Nat.zero_le _,HI0⟩
  case round =>
    clear HI0 hmk2
    obtain ⟨i,rfl,hin,HI⟩:=hrel
    obtain ⟨E,hM,hR⟩:=(show ∃ E : Nat → List Value,Mk 9 w1 G n E i wr ∧ ∀ j,j < i → ∃ vu vc vn vd,E j = [.string (F j).x,.int .i64 (F j).l,.int .i64 (F j).m,.bool (F j).r,.int .i64 (F j).g,vu,vc,vn,vd] ∧ RowUF (G + 1) wr vu (F j).u (F j).U ∧ RowWF (G + 1) wr vc (F j).c (F j).C ∧ RowIF (G + 1) wr vn (F j).n (F j).N ∧ RowMF (G + 1) wr vd (F j).d (F j).D from HI)
    have hA:=(show (0 < n → ∃ a : Addr,pa = some a ∧ n ≤ ca ∧ 0 ≤ a.block ∧ ∀ i,i < n → ProC 0 w (a.add (i * 9)) (F i)) ∧ Kb 0 w w1 ∧ G = w.heap.size ∧ (∀ i,i < n → (F i).u ≤ 1048576 ∧ (F i).c ≤ 1048576 ∧ (F i).n ≤ 1048576 ∧ (F i).d ≤ 1048576) from HA)
    have hBW : Kb 0 w wr:=by
      have hG:=hA.2.2.1
      have hA2:=hA.2.1
      exact ⟨hM.os.trans hA2.os,hM.output.trans hA2.output,Nat.le_trans hA2.size hM.size,fun b _ hb=>(hM.block b (Nat.lt_of_lt_of_le hb hA2.size) (by omega)).trans (hA2.block b (Nat.zero_le _) hb)⟩
    rcases Nat.lt_or_ge i n with hi | hi
    · have hiI : (i : Int) < (n : Int):=by omega
      obtain ⟨a,rfl,hca,_,hra⟩:=hA.1 (by omega)
      obtain ⟨vu,vc,vn,vd,hcel,hvu,hvc,hvn,hvd⟩:=(hra i hi).keep (Nat.zero_le _) hBW
      obtain ⟨y1,y2,y3,y4⟩:=hA.2.2.2 i hi
      obtain ⟨d0,d1,d2,d3,d4,d5,d6,d7,d8⟩:=hcel
      have HT : Hid (Calls Tryz.prog 44 #[prov (F i) vu vc vn vd] wr fun e w'=>∃ v0 v1 v2 v3,e = .returned (prov (F i) v0 v1 v2 v3) ∧ RowUF wr.heap.size w' v0 (F i).u (F i).U ∧ RowWF wr.heap.size w' v1 (F i).c (F i).C ∧ RowIF wr.heap.size w' v2 (F i).n (F i).N ∧ RowMF wr.heap.size w' v3 (F i).d (F i).D ∧ Kb 0 wr w'):=to_proF wr (fun W k=>to_upsF W (hvu.keep k) y1) (fun W k=>to_valsF W (hvc.keep k) y2) (fun W k=>to_inssF W (hvn.keep k) y3) (fun W k=>to_namsF W (hvd.keep k) y4)
      have HS : Hid (∀ w6 (v0 v1 v2 v3 : Value),Kb 0 wr w6 → RowUF wr.heap.size w6 v0 (F i).u (F i).U → RowWF wr.heap.size w6 v1 (F i).c (F i).C → RowIF wr.heap.size w6 v2 (F i).n (F i).N → RowMF wr.heap.size w6 v3 (F i).d (F i).D → (∀ t,t < 9 → ∃ u,w6.cell? ⟨G,i * 9 + t,none⟩ = some u) ∧ (∀ j,w6.frozen? ⟨G,j,none⟩ = false) ∧ ∃ E : Nat → List Value,Mk 9 w1 G n E (i + 1) (setL w6 G (i * 9) [.string (F i).x,.int .i64 (F i).l,.int .i64 (F i).m,.bool (F i).r,.int .i64 (F i).g,v0,v1,v2,v3]) ∧ ∀ j,j < i + 1 → ∃ vu vc vn vd,E j = [.string (F j).x,.int .i64 (F j).l,.int .i64 (F j).m,.bool (F j).r,.int .i64 (F j).g,vu,vc,vn,vd] ∧ RowUF (G + 1) (setL w6 G (i * 9) [.string (F i).x,.int .i64 (F i).l,.int .i64 (F i).m,.bool (F i).r,.int .i64 (F i).g,v0,v1,v2,v3]) vu (F j).u (F j).U ∧ RowWF (G + 1) (setL w6 G (i * 9) [.string (F i).x,.int .i64 (F i).l,.int .i64 (F i).m,.bool (F i).r,.int .i64 (F i).g,v0,v1,v2,v3]) vc (F j).c (F j).C ∧ RowIF (G + 1) (setL w6 G (i * 9) [.string (F i).x,.int .i64 (F i).l,.int .i64 (F i).m,.bool (F i).r,.int .i64 (F i).g,v0,v1,v2,v3]) vn (F j).n (F j).N ∧ RowMF (G + 1) (setL w6 G (i * 9) [.string (F i).x,.int .i64 (F i).l,.int .i64 (F i).m,.bool (F i).r,.int .i64 (F i).g,v0,v1,v2,v3]) vd (F j).d (F j).D):=by
        show ∀ w6 (v0 v1 v2 v3 : Value),_
        intro w6 v0 v1 v2 v3 k6 r0 r1 r2 r3
        have h6:=hM.kb k6
        have hgl:=Nat.lt_of_lt_of_le hM.gl hM.size
        have kl : Kb (G + 1) w6 (setL w6 G (i * 9) [.string (F i).x,.int .i64 (F i).l,.int .i64 (F i).m,.bool (F i).r,.int .i64 (F i).g,v0,v1,v2,v3]):=⟨(setL_os _ _ _ _).1,(setL_os _ _ _ _).2,by rw [setL_size];exact Nat.le_refl _,fun k h1 _=>setL_block _ _ (by omega) _ _ _⟩
        refine ⟨h6.rest i (Nat.le_refl _) hi,h6.fz,_,h6.step hi rfl,fun j hj=>?_⟩
        by_cases e : j = i
        · subst e
          rw [if_pos rfl]
          exact ⟨v0,v1,v2,v3,rfl,(r0.mono (by omega)).keep kl,(r1.mono (by omega)).keep kl,(r2.mono (by omega)).keep kl,(r3.mono (by omega)).keep kl⟩
        · rw [if_neg e]
          obtain ⟨uv,uu,un,ud,q1,q2,q3,q4,q5⟩:=hR j (by omega)
          exact ⟨uv,uu,un,ud,q1,(q2.keep (k6.mono (Nat.zero_le _))).keep kl,(q3.keep (k6.mono (Nat.zero_le _))).keep kl,(q4.keep (k6.mono (Nat.zero_le _))).keep kl,(q5.keep (k6.mono (Nat.zero_le _))).keep kl⟩
      clear hA HA hM hR HI hra hin hBW hvu hvc hvn hvd y1 y2 y3 y4
      go_wp2_with fail
      refine (show Calls Tryz.prog 44 #[prov (F i) vu vc vn vd] wr fun e w'=>∃ v0 v1 v2 v3,e = .returned (prov (F i) v0 v1 v2 v3) ∧ RowUF wr.heap.size w' v0 (F i).u (F i).U ∧ RowWF wr.heap.size w' v1 (F i).c (F i).C ∧ RowIF wr.heap.size w' v2 (F i).n (F i).N ∧ RowMF wr.heap.size w' v3 (F i).d (F i).D ∧ Kb 0 wr w' from HT).mono ?_
      rintro e w6 ⟨v0,v1,v2,v3,rfl,r0,r1,r2,r3,k6⟩
      obtain ⟨hc,hf,hT⟩:=(show ∀ w6 (v0 v1 v2 v3 : Value),_ from HS) w6 v0 v1 v2 v3 k6 r0 r1 r2 r3
      have HTT : Hid (∃ E : Nat → List Value,Mk 9 w1 G n E (i + 1) (setL w6 G (i * 9) [.string (F i).x,.int .i64 (F i).l,.int .i64 (F i).m,.bool (F i).r,.int .i64 (F i).g,v0,v1,v2,v3]) ∧ ∀ j,j < i + 1 → ∃ vu vc vn vd,E j = [.string (F j).x,.int .i64 (F j).l,.int .i64 (F j).m,.bool (F j).r,.int .i64 (F j).g,vu,vc,vn,vd] ∧ RowUF (G + 1) (setL w6 G (i * 9) [.string (F i).x,.int .i64 (F i).l,.int .i64 (F i).m,.bool (F i).r,.int .i64 (F i).g,v0,v1,v2,v3]) vu (F j).u (F j).U ∧ RowWF (G + 1) (setL w6 G (i * 9) [.string (F i).x,.int .i64 (F i).l,.int .i64 (F i).m,.bool (F i).r,.int .i64 (F i).g,v0,v1,v2,v3]) vc (F j).c (F j).C ∧ RowIF (G + 1) (setL w6 G (i * 9) [.string (F i).x,.int .i64 (F i).l,.int .i64 (F i).m,.bool (F i).r,.int .i64 (F i).g,v0,v1,v2,v3]) vn (F j).n (F j).N ∧ RowMF (G + 1) (setL w6 G (i * 9) [.string (F i).x,.int .i64 (F i).l,.int .i64 (F i).m,.bool (F i).r,.int .i64 (F i).g,v0,v1,v2,v3]) vd (F j).d (F j).D):=hT
      obtain ⟨u0,h0⟩:=hc 0 (by omega)
      obtain ⟨u1,h1⟩:=hc 1 (by omega)
      obtain ⟨u2,h2⟩:=hc 2 (by omega)
      obtain ⟨u3,h3⟩:=hc 3 (by omega)
      obtain ⟨u4,h4⟩:=hc 4 (by omega)
      obtain ⟨u5,h5⟩:=hc 5 (by omega)
      obtain ⟨u6,h6⟩:=hc 6 (by omega)
      obtain ⟨u7,h7⟩:=hc 7 (by omega)
      obtain ⟨u8,h8⟩:=hc 8 (by omega)
      rw [Nat.add_zero] at h0
      have e0:=hf (i * 9)
      have e1:=hf (i * 9 + 1)
      have e2:=hf (i * 9 + 2)
      have e3:=hf (i * 9 + 3)
      have e4:=hf (i * 9 + 4)
      have e5:=hf (i * 9 + 5)
      have e6:=hf (i * 9 + 6)
      have e7:=hf (i * 9 + 7)
      have e8:=hf (i * 9 + 8)
      clear hc hf hT HS HT
      obtain ⟨p0,l0,rfl,_⟩:=id r0
      obtain ⟨p1,l1,rfl,_⟩:=id r1
      obtain ⟨p2,l2,rfl,_⟩:=id r2
      obtain ⟨p3,l3,rfl,_⟩:=id r3
      clear k6 r0 r1 r2 r3 d0 d1 d2 d3 d4 d5 d6 d7 d8
      unfold prov
      go_wp2_with fail
      go_roundw
      case rel=>exact ⟨i + 1,by go_num,by omega,HTT⟩
      case measure=>simp [intOf];omega
    · obtain rfl : i = n:=by omega
      have HE : Hid (Mk 9 w1 G i E i wr ∧ (∀ j,j < i → ∃ vu vc vn vd,E j = [.string (F j).x,.int .i64 (F j).l,.int .i64 (F j).m,.bool (F j).r,.int .i64 (F j).g,vu,vc,vn,vd] ∧ RowUF (G + 1) wr vu (F j).u (F j).U ∧ RowWF (G + 1) wr vc (F j).c (F j).C ∧ RowIF (G + 1) wr vn (F j).n (F j).N ∧ RowMF (G + 1) wr vd (F j).d (F j).D) ∧ Kb 0 w wr ∧ G = w.heap.size):=(⟨hM,hR,hBW,hA.2.2.1⟩ : _ ∧ _ ∧ _ ∧ _)
      clear HI hM hR hA HA hBW
      go_wp2_with fail
      go_ret
      obtain ⟨hM,hR,hB,hG⟩:=(show Mk 9 w1 G i E i wr ∧ (∀ j,j < i → ∃ vu vc vn vd,E j = [.string (F j).x,.int .i64 (F j).l,.int .i64 (F j).m,.bool (F j).r,.int .i64 (F j).g,vu,vc,vn,vd] ∧ RowUF (G + 1) wr vu (F j).u (F j).U ∧ RowWF (G + 1) wr vc (F j).c (F j).C ∧ RowIF (G + 1) wr vn (F j).n (F j).N ∧ RowMF (G + 1) wr vd (F j).d (F j).D) ∧ Kb 0 w wr ∧ G = w.heap.size from HE)
      refine ⟨_,rfl,⟨G,rfl,(by omega),Nat.lt_of_lt_of_le hM.gl hM.size,hM.fz,fun j hj=>?_⟩,hB⟩
      have hce:=hM.ce j hj
      obtain ⟨uv,uu,un,ud,q1,q2,q3,q4,q5⟩:=hR j hj
      rw [q1] at hce
      exact ⟨uv,uu,un,ud,CelP.of hce,q2,q3,q4,q5⟩
structure K1 (g : Nat) (W w' : World) : Prop where
  os : w'.os = W.os
  output : w'.output = W.output
  size : W.heap.size ≤ w'.heap.size
  block : ∀ b,b < W.heap.size → b ≠ g → w'.heap[b]? = W.heap[b]?
  cell : ∀ j,(∃ u,W.cell? ⟨g,j,none⟩ = some u) → ∃ u,w'.cell? ⟨g,j,none⟩ = some u
  fz : ∀ j,g < W.heap.size → w'.frozen? ⟨g,j,none⟩ = W.frozen? ⟨g,j,none⟩
theorem K1.refl (g : Nat) (W : World) : K1 g W W:=⟨rfl,rfl,Nat.le_refl _,fun _ _ _=>rfl,fun _ h=>h,fun _ _=>rfl⟩
theorem K1.trans {g : Nat} {a b c : World} (h : K1 g a b) (k : K1 g b c) : K1 g a c :=
  ⟨k.os.trans h.os,k.output.trans h.output,Nat.le_trans h.size k.size,fun i hi hg=>(k.block i (Nat.lt_of_lt_of_le hi h.size) hg).trans (h.block i hi hg),fun j hj=>k.cell j (h.cell j hj),fun j hg=>(k.fz j (Nat.lt_of_lt_of_le hg h.size)).trans (h.fz j hg)⟩
theorem K1.of_kb {g : Nat} {W w' : World} (k : Kb 0 W w') : K1 g W w' :=
  ⟨k.os,k.output,k.size,fun b hb _=>k.block b (Nat.zero_le _) hb,fun j ⟨u,hu⟩=>⟨u,k.cell hu⟩,fun j hg=>k.frozen (Nat.zero_le _) hg⟩
theorem K1.set1 (g : Nat) (W : World) (j : Nat) (v : Value) : K1 g W (W.setCell ⟨g,j,none⟩ v):=by
  refine ⟨rfl,rfl,by simp [World.setCell],fun b _ hb=>Below.heap_setCell _ _ _ _ hb,fun i ⟨u,hu⟩=>?_,fun i _=>?_⟩
  · by_cases e : i = j
    · subst e
      exact ⟨v,set_eq _ _ _ _ _ hu⟩
    · exact ⟨u,by rw [set_ne _ _ _ _ _ (by omega)];exact hu⟩
  · exact set_fz _ _ _ _ _
theorem mark_ups {W : World} {g n : Nat} (k : Int) (h1 : 1 ≤ k) (h2 : k ≤ 500000000) (hn : n ≤ 1048576) (hc : ∀ j, j < n * 2 → ∃ u, W.cell? ⟨g, j, none⟩ = some u) (hf : ∀ j, W.frozen? ⟨g, j, none⟩ = false) (hg : g < W.heap.size) :
    Calls Tryz.prog 67 #[.slice (some ⟨g,0,none⟩) n n,.int .i64 k] W fun e w'=>e = .returned (.int .i64 (k + 2 * (n : Int))) ∧ K1 g W w':=by
  have hst : ∀ (a : Addr) (n : Nat) (m : Mode) (w : World),(store a (.float .f64 n) m).run Tryz.prog w = stored Tryz.prog w a (.float .f64 n) m:=fun a n m w=>run_store _ _ _ _ _ rfl
  have HH : Hid ((∀ j,j < n * 2 → ∃ u,W.cell? ⟨g,j,none⟩ = some u) ∧ (∀ j,W.frozen? ⟨g,j,none⟩ = false) ∧ g < W.heap.size):=(⟨hc,hf,hg⟩ : _ ∧ _)
  have hnI : (n : Int) ≤ 1048576:=by omega
  clear hc hf hg hn
  go_enter Tryz.func67,Tryz.ntmps67
  go_wp2_with fail
  go_loopw [1,5] (fun s1 s5 wr=>∃ i : Nat,i ≤ n ∧ s5 = .int .i64 (i : Int) ∧ s1 = .int .i64 (k + 2 * (i : Int)) ∧ Hid (K1 g W wr)) (fun _ s5 _=>n - (intOf s5).toNat)
  case atStart=>exact ⟨0,by omega,rfl,by simp,K1.refl _ _⟩
  case round =>
    obtain ⟨i,hi,rfl,rfl,HK⟩:=hrel
    obtain ⟨hc,hf,hg⟩:=(show _ ∧ _ ∧ _ from HH)
    by_cases hin : i < n
    · have hI : (i : Int) < (n : Int):=by omega
      have hb : i * 2 + 2 ≤ n * 2:=by have:=Nat.mul_le_mul_right 2 (show i + 1 ≤ n from hin);rw [Nat.succ_mul] at this;exact this
      obtain ⟨K,hK⟩ : ∃ K : Int,K = k + 2 * (i : Int):=⟨_,rfl⟩
      have hK1 : 1 ≤ K:=by omega
      have hK2 : K ≤ 600000000:=by omega
      have HKK : Hid (K = k + 2 * (i : Int) ∧ i * 2 + 2 ≤ n * 2):=(⟨hK,hb⟩ : _ ∧ _)
      rw [← hK]
      clear hc hf hg hK hb
      obtain ⟨u0,cu0⟩:=(show K1 g W wr from HK).cell (i * 2 + 0) ((show _ ∧ _ ∧ _ from HH).1 _ (by have:=(show _ ∧ _ from HKK).2;omega))
      have cf0 : wr.frozen? ⟨g,i * 2 + 0,none⟩ = false:=((show K1 g W wr from HK).fz _ (show _ ∧ _ ∧ _ from HH).2.2).trans ((show _ ∧ _ ∧ _ from HH).2.1 _)
      rw [Nat.add_zero] at cu0 cf0
      go_upto_region 5 with fail
      generalize hy : World.setCell wr _ _ = y0
      have HK0 : Hid (K1 g W y0):=by rw [← hy];exact (show K1 g W wr from HK).trans (K1.set1 _ _ _ _)
      clear hy cu0 cf0 u0 HK
      obtain ⟨u1,cu1⟩:=(show K1 g W y0 from HK0).cell (i * 2 + 1) ((show _ ∧ _ ∧ _ from HH).1 _ (by have:=(show _ ∧ _ from HKK).2;omega))
      have cf1 : y0.frozen? ⟨g,i * 2 + 1,none⟩ = false:=((show K1 g W y0 from HK0).fz _ (show _ ∧ _ ∧ _ from HH).2.2).trans ((show _ ∧ _ ∧ _ from HH).2.1 _)
      go_upto_region 7 with fail
      generalize hy : World.setCell y0 _ _ = y1
      have HK1 : Hid (K1 g W y1):=by rw [← hy];exact (show K1 g W y0 from HK0).trans (K1.set1 _ _ _ _)
      clear hy cu1 cf1 u1 HK0
      go_wp2_with fail
      go_roundw
      case rel=>exact ⟨i + 1,by omega,by go_num,by rw [(show _ ∧ _ from HKK).1];congr 1;omega,HK1⟩
      case measure=>simp [intOf];omega
    · obtain rfl : i = n:=by omega
      have hI : ¬ (i : Int) < (i : Int):=by omega
      clear hc hf hg HH
      go_wp2_with fail
      go_ret
      exact ⟨rfl,HK⟩
theorem mark_inss {W : World} {g n : Nat} (k : Int) (h1 : 1 ≤ k) (h2 : k ≤ 500000000) (hn : n ≤ 1048576) (hc : ∀ j, j < n * 5 → ∃ u, W.cell? ⟨g, j, none⟩ = some u) (hf : ∀ j, W.frozen? ⟨g, j, none⟩ = false) (hg : g < W.heap.size) :
    Calls Tryz.prog 69 #[.slice (some ⟨g,0,none⟩) n n,.int .i64 k] W fun e w'=>e = .returned (.int .i64 (k + 5 * (n : Int))) ∧ K1 g W w':=by
  have hst : ∀ (a : Addr) (n : Nat) (m : Mode) (w : World),(store a (.float .f64 n) m).run Tryz.prog w = stored Tryz.prog w a (.float .f64 n) m:=fun a n m w=>run_store _ _ _ _ _ rfl
  have HH : Hid ((∀ j,j < n * 5 → ∃ u,W.cell? ⟨g,j,none⟩ = some u) ∧ (∀ j,W.frozen? ⟨g,j,none⟩ = false) ∧ g < W.heap.size):=(⟨hc,hf,hg⟩ : _ ∧ _)
  have hnI : (n : Int) ≤ 1048576:=by omega
  clear hc hf hg hn
  go_enter Tryz.func69,Tryz.ntmps69
  go_wp2_with fail
  go_loopw [1,5] (fun s1 s5 wr=>∃ i : Nat,i ≤ n ∧ s5 = .int .i64 (i : Int) ∧ s1 = .int .i64 (k + 5 * (i : Int)) ∧ Hid (K1 g W wr)) (fun _ s5 _=>n - (intOf s5).toNat)
  case atStart=>exact ⟨0,by omega,rfl,by simp,K1.refl _ _⟩
  case round =>
    obtain ⟨i,hi,rfl,rfl,HK⟩:=hrel
    obtain ⟨hc,hf,hg⟩:=(show _ ∧ _ ∧ _ from HH)
    by_cases hin : i < n
    · have hI : (i : Int) < (n : Int):=by omega
      have hb : i * 5 + 5 ≤ n * 5:=by have:=Nat.mul_le_mul_right 5 (show i + 1 ≤ n from hin);rw [Nat.succ_mul] at this;exact this
      obtain ⟨K,hK⟩ : ∃ K : Int,K = k + 5 * (i : Int):=⟨_,rfl⟩
      have hK1 : 1 ≤ K:=by omega
      have hK2 : K ≤ 600000000:=by omega
      have HKK : Hid (K = k + 5 * (i : Int) ∧ i * 5 + 5 ≤ n * 5):=(⟨hK,hb⟩ : _ ∧ _)
      rw [← hK]
      clear hc hf hg hK hb
      obtain ⟨u0,cu0⟩:=(show K1 g W wr from HK).cell (i * 5 + 0) ((show _ ∧ _ ∧ _ from HH).1 _ (by have:=(show _ ∧ _ from HKK).2;omega))
      have cf0 : wr.frozen? ⟨g,i * 5 + 0,none⟩ = false:=((show K1 g W wr from HK).fz _ (show _ ∧ _ ∧ _ from HH).2.2).trans ((show _ ∧ _ ∧ _ from HH).2.1 _)
      rw [Nat.add_zero] at cu0 cf0
      go_upto_region 5 with fail
      generalize hy : World.setCell wr _ _ = y0
      have HK0 : Hid (K1 g W y0):=by rw [← hy];exact (show K1 g W wr from HK).trans (K1.set1 _ _ _ _)
      clear hy cu0 cf0 u0 HK
      obtain ⟨u1,cu1⟩:=(show K1 g W y0 from HK0).cell (i * 5 + 1) ((show _ ∧ _ ∧ _ from HH).1 _ (by have:=(show _ ∧ _ from HKK).2;omega))
      have cf1 : y0.frozen? ⟨g,i * 5 + 1,none⟩ = false:=((show K1 g W y0 from HK0).fz _ (show _ ∧ _ ∧ _ from HH).2.2).trans ((show _ ∧ _ ∧ _ from HH).2.1 _)
      go_upto_region 7 with fail
      generalize hy : World.setCell y0 _ _ = y1
      have HK1 : Hid (K1 g W y1):=by rw [← hy];exact (show K1 g W y0 from HK0).trans (K1.set1 _ _ _ _)
      clear hy cu1 cf1 u1 HK0
      obtain ⟨u2,cu2⟩:=(show K1 g W y1 from HK1).cell (i * 5 + 2) ((show _ ∧ _ ∧ _ from HH).1 _ (by have:=(show _ ∧ _ from HKK).2;omega))
      have cf2 : y1.frozen? ⟨g,i * 5 + 2,none⟩ = false:=((show K1 g W y1 from HK1).fz _ (show _ ∧ _ ∧ _ from HH).2.2).trans ((show _ ∧ _ ∧ _ from HH).2.1 _)
      go_upto_region 9 with fail
      generalize hy : World.setCell y1 _ _ = y2
      have HK2 : Hid (K1 g W y2):=by rw [← hy];exact (show K1 g W y1 from HK1).trans (K1.set1 _ _ _ _)
      clear hy cu2 cf2 u2 HK1
      obtain ⟨u3,cu3⟩:=(show K1 g W y2 from HK2).cell (i * 5 + 3) ((show _ ∧ _ ∧ _ from HH).1 _ (by have:=(show _ ∧ _ from HKK).2;omega))
      have cf3 : y2.frozen? ⟨g,i * 5 + 3,none⟩ = false:=((show K1 g W y2 from HK2).fz _ (show _ ∧ _ ∧ _ from HH).2.2).trans ((show _ ∧ _ ∧ _ from HH).2.1 _)
      go_upto_region 11 with fail
      generalize hy : World.setCell y2 _ _ = y3
      have HK3 : Hid (K1 g W y3):=by rw [← hy];exact (show K1 g W y2 from HK2).trans (K1.set1 _ _ _ _)
      clear hy cu3 cf3 u3 HK2
      obtain ⟨u4,cu4⟩:=(show K1 g W y3 from HK3).cell (i * 5 + 4) ((show _ ∧ _ ∧ _ from HH).1 _ (by have:=(show _ ∧ _ from HKK).2;omega))
      have cf4 : y3.frozen? ⟨g,i * 5 + 4,none⟩ = false:=((show K1 g W y3 from HK3).fz _ (show _ ∧ _ ∧ _ from HH).2.2).trans ((show _ ∧ _ ∧ _ from HH).2.1 _)
      go_upto_region 13 with fail
      generalize hy : World.setCell y3 _ _ = y4
      have HK4 : Hid (K1 g W y4):=by rw [← hy];exact (show K1 g W y3 from HK3).trans (K1.set1 _ _ _ _)
      clear hy cu4 cf4 u4 HK3
      go_wp2_with fail
      go_roundw
      case rel=>exact ⟨i + 1,by omega,by go_num,by rw [(show _ ∧ _ from HKK).1];congr 1;omega,HK4⟩
      case measure=>simp [intOf];omega
    · obtain rfl : i = n:=by omega
      have hI : ¬ (i : Int) < (i : Int):=by omega
      clear hc hf hg HH
      go_wp2_with fail
      go_ret
      exact ⟨rfl,HK⟩
end Go.Proofs.YtnmeemjoodoalaaGreatDoor.Fo
