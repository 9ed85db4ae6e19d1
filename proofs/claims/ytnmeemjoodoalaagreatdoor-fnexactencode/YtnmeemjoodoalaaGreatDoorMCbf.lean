import Derived.Test.YtnmeemjoodoalaaGreatDoorMCbc
import Derived.Test.YtnmeemjoodoalaaGreatDoorMCbe
import Derived.Test.YtnmeemjoodoalaaGreatDoorMCbb
import Derived.Deep.RegionHeldLaw
set_option maxHeartbeats 8000000
namespace Go.Proofs.YtnmeemjoodoalaaGreatDoor.Fo
open Go.ChangeShapes Go.WideShapes Go.ChangeAt Go.RowKit
set_option linter.unusedVariables false
set_option maxRecDepth 100000
theorem to_pros {va : Value} {n : Nat} {F : Nat → Pd} (w : World) (ha : RowP 0 w va n F) (hn : n ≤ 1048576) (hF : ∀ i, i < n → (F i).u ≤ 1048576 ∧ (F i).c ≤ 1048576 ∧ (F i).n ≤ 1048576 ∧ (F i).d ≤ 1048576) :
    Calls Tryz.prog 22 #[va] w fun e w'=>∃ v,e = .returned v ∧ RowP w.heap.size w' v n F ∧ Kb 0 w w':=by
  obtain ⟨pa,ca,rfl,ha2⟩:=ha
  have hnI : (n : Int) ≤ 1048576:=by omega
  have hmk:=run_make (P:=Tryz.prog) w 28 50 Tryz.t50 (.agg #[.string ⟨#[]⟩,.int .i64 0,.int .i64 0,.bool false,.int .i64 0,.slice none 0 0,.slice none 0 0,.slice none 0 0,.slice none 0 0]) Tryz.underlying28 (by kernel_rfl) (by kernel_rfl) .i64 .i64 (n : Int) (n : Int) (by omega) (Int.le_refl _) (by show (144 : Int) * (n : Int) ≤ _;omega) (by omega)
  rw [Int.toNat_natCast] at hmk
  obtain ⟨w1,hw1⟩ : ∃ w1,w1 = w.alloc (.cells (madeCells (.agg #[.string ⟨#[]⟩,.int .i64 0,.int .i64 0,.bool false,.int .i64 0,.slice none 0 0,.slice none 0 0,.slice none 0 0,.slice none 0 0] : Value).cells (n * 9)) 50):=⟨_,rfl⟩
  have hmk2:=hmk
  rw [show n * Tryz.t50.size = n * 9 from rfl,← hw1] at hmk2
  clear hmk
  have hk1 : Kb 0 w w1:=by rw [hw1];exact kb_alloc _ _ _
  obtain ⟨G,hG⟩ : ∃ G,G = w.heap.size:=⟨_,rfl⟩
  have HI0 : Hid (∃ E : Nat → List Value,Mk 9 w1 G n E 0 w1 ∧ ∀ j,j < 0 → ∃ vu vc vn vd,E j = [.string (F j).x,.int .i64 (F j).l,.int .i64 (F j).m,.bool (F j).r,.int .i64 (F j).g,vu,vc,vn,vd] ∧ RowU (G + 1) w1 vu (F j).u (F j).U ∧ RowW (G + 1) w1 vc (F j).c (F j).C ∧ RowI (G + 1) w1 vn (F j).n (F j).N ∧ RowM (G + 1) w1 vd (F j).d (F j).D):=by
    refine ⟨fun _=>[],?_,fun j hj=>by omega⟩
    rw [hG,hw1]
    exact mk_zero w _ 9 _ n _ rfl
  have HA : Hid ((0 < n → ∃ a : Addr,pa = some a ∧ n ≤ ca ∧ 0 ≤ a.block ∧ ∀ i,i < n → ProC 0 w (a.add (i * 9)) (F i)) ∧ Kb 0 w w1 ∧ G = w.heap.size ∧ (∀ i,i < n → (F i).u ≤ 1048576 ∧ (F i).c ≤ 1048576 ∧ (F i).n ≤ 1048576 ∧ (F i).d ≤ 1048576)):=(⟨ha2,hk1,hG,hF⟩ : _ ∧ _)
  rw [← hG] at hmk2
  clear ha2 hk1 hw1 hn hG hF
  go_enter Tryz.func22,Tryz.ntmps22
  go_wp2_with fail
  go_loopw [4] (fun s4 wr=>∃ i : Nat,s4 = .int .i64 (i : Int) ∧ i ≤ n ∧ Hid (∃ E : Nat → List Value,Mk 9 w1 G n E i wr ∧ ∀ j,j < i → ∃ vu vc vn vd,E j = [.string (F j).x,.int .i64 (F j).l,.int .i64 (F j).m,.bool (F j).r,.int .i64 (F j).g,vu,vc,vn,vd] ∧ RowU (G + 1) wr vu (F j).u (F j).U ∧ RowW (G + 1) wr vc (F j).c (F j).C ∧ RowI (G + 1) wr vn (F j).n (F j).N ∧ RowM (G + 1) wr vd (F j).d (F j).D)) (fun s4 _=>n - (intOf s4).toNat)
  case atStart=>exact ⟨0,rfl,Nat.zero_le _,HI0⟩
  case round =>
    clear HI0 hmk2
    obtain ⟨i,rfl,hin,HI⟩:=hrel
    obtain ⟨E,hM,hR⟩:=(show ∃ E : Nat → List Value,Mk 9 w1 G n E i wr ∧ ∀ j,j < i → ∃ vu vc vn vd,E j = [.string (F j).x,.int .i64 (F j).l,.int .i64 (F j).m,.bool (F j).r,.int .i64 (F j).g,vu,vc,vn,vd] ∧ RowU (G + 1) wr vu (F j).u (F j).U ∧ RowW (G + 1) wr vc (F j).c (F j).C ∧ RowI (G + 1) wr vn (F j).n (F j).N ∧ RowM (G + 1) wr vd (F j).d (F j).D from HI)
    have hA:=(show (0 < n → ∃ a : Addr,pa = some a ∧ n ≤ ca ∧ 0 ≤ a.block ∧ ∀ i,i < n → ProC 0 w (a.add (i * 9)) (F i)) ∧ Kb 0 w w1 ∧ G = w.heap.size ∧ (∀ i,i < n → (F i).u ≤ 1048576 ∧ (F i).c ≤ 1048576 ∧ (F i).n ≤ 1048576 ∧ (F i).d ≤ 1048576) from HA)
    have hBW : Kb 0 w wr:=by
      have hG:=hA.2.2.1
      have hA2:=hA.2.1
      exact ⟨hM.os.trans hA2.os,hM.output.trans hA2.output,Nat.le_trans hA2.size hM.size,fun b _ hb=>(hM.block b (Nat.lt_of_lt_of_le hb hA2.size) (by omega)).trans (hA2.block b (Nat.zero_le _) hb)⟩
    rcases Nat.lt_or_ge i n with hi | hi
    · have hiI : (i : Int) < (n : Int):=by omega
      obtain ⟨a,rfl,hca,_,hra⟩:=hA.1 (by omega)
      obtain ⟨vu,vc,vn,vd,hcel,hvu,hvc,hvn,hvd⟩:=(hra i hi).keep (Nat.zero_le _) hBW
      obtain ⟨y1,y2,y3,y4⟩:=hA.2.2.2 i hi
      obtain ⟨d0,d1,d2,d3,d4,d5,d6,d7,d8⟩:=hcel
      have HT : Hid (Calls Tryz.prog 44 #[prov (F i) vu vc vn vd] wr fun e w'=>∃ v0 v1 v2 v3,e = .returned (prov (F i) v0 v1 v2 v3) ∧ RowU wr.heap.size w' v0 (F i).u (F i).U ∧ RowW wr.heap.size w' v1 (F i).c (F i).C ∧ RowI wr.heap.size w' v2 (F i).n (F i).N ∧ RowM wr.heap.size w' v3 (F i).d (F i).D ∧ Kb 0 wr w'):=to_pro wr (fun W k=>to_ups W (hvu.keep k) y1) (fun W k=>to_vals W (hvc.keep k) y2) (fun W k=>to_inss W (hvn.keep k) y3) (fun W k=>to_nams W (hvd.keep k) y4)
      have HS : Hid (∀ w6 (v0 v1 v2 v3 : Value),Kb 0 wr w6 → RowU wr.heap.size w6 v0 (F i).u (F i).U → RowW wr.heap.size w6 v1 (F i).c (F i).C → RowI wr.heap.size w6 v2 (F i).n (F i).N → RowM wr.heap.size w6 v3 (F i).d (F i).D → (∀ t,t < 9 → ∃ u,w6.cell? ⟨G,i * 9 + t,none⟩ = some u) ∧ (∀ j,w6.frozen? ⟨G,j,none⟩ = false) ∧ ∃ E : Nat → List Value,Mk 9 w1 G n E (i + 1) (setL w6 G (i * 9) [.string (F i).x,.int .i64 (F i).l,.int .i64 (F i).m,.bool (F i).r,.int .i64 (F i).g,v0,v1,v2,v3]) ∧ ∀ j,j < i + 1 → ∃ vu vc vn vd,E j = [.string (F j).x,.int .i64 (F j).l,.int .i64 (F j).m,.bool (F j).r,.int .i64 (F j).g,vu,vc,vn,vd] ∧ RowU (G + 1) (setL w6 G (i * 9) [.string (F i).x,.int .i64 (F i).l,.int .i64 (F i).m,.bool (F i).r,.int .i64 (F i).g,v0,v1,v2,v3]) vu (F j).u (F j).U ∧ RowW (G + 1) (setL w6 G (i * 9) [.string (F i).x,.int .i64 (F i).l,.int .i64 (F i).m,.bool (F i).r,.int .i64 (F i).g,v0,v1,v2,v3]) vc (F j).c (F j).C ∧ RowI (G + 1) (setL w6 G (i * 9) [.string (F i).x,.int .i64 (F i).l,.int .i64 (F i).m,.bool (F i).r,.int .i64 (F i).g,v0,v1,v2,v3]) vn (F j).n (F j).N ∧ RowM (G + 1) (setL w6 G (i * 9) [.string (F i).x,.int .i64 (F i).l,.int .i64 (F i).m,.bool (F i).r,.int .i64 (F i).g,v0,v1,v2,v3]) vd (F j).d (F j).D):=by
        show ∀ w6 (v0 v1 v2 v3 : Value),_
        intro w6 v0 v1 v2 v3 k6 r0 r1 r2 r3
        have h6:=hM.kb k6
        have hgl:=Nat.lt_of_lt_of_le hM.gl hM.size
        have kl : Kb (G + 1) w6 (setL w6 G (i * 9) [.string (F i).x,.int .i64 (F i).l,.int .i64 (F i).m,.bool (F i).r,.int .i64 (F i).g,v0,v1,v2,v3]):=⟨(setL_os _ _ _ _).1,(setL_os _ _ _ _).2,by rw [setL_size];exact Nat.le_refl _,fun k h1 _=>setL_block _ _ (by omega) _ _ _⟩
        refine ⟨h6.rest i (Nat.le_refl _) hi,h6.fz,_,h6.step hi rfl,fun j hj=>?_⟩
        by_cases e : j = i
        · subst e
          rw [if_pos rfl]
          exact ⟨v0,v1,v2,v3,rfl,(r0.mono (by omega)).keep kl,(r1.mono (by omega)).keep kl,(r2.mono (by omega)).keep kl,(r3.mono (by omega)).keep kl⟩
        · rw [if_neg e]
          obtain ⟨uv,uu,un,ud,q1,q2,q3,q4,q5⟩:=hR j (by omega)
          exact ⟨uv,uu,un,ud,q1,(q2.keep (k6.mono (Nat.zero_le _))).keep kl,(q3.keep (k6.mono (Nat.zero_le _))).keep kl,(q4.keep (k6.mono (Nat.zero_le _))).keep kl,(q5.keep (k6.mono (Nat.zero_le _))).keep kl⟩
      clear hA HA hM hR HI hra hin hBW hvu hvc hvn hvd y1 y2 y3 y4
      go_wp2_with fail
      refine (show Calls Tryz.prog 44 #[prov (F i) vu vc vn vd] wr fun e w'=>∃ v0 v1 v2 v3,e = .returned (prov (F i) v0 v1 v2 v3) ∧ RowU wr.heap.size w' v0 (F i).u (F i).U ∧ RowW wr.heap.size w' v1 (F i).c (F i).C ∧ RowI wr.heap.size w' v2 (F i).n (F i).N ∧ RowM wr.heap.size w' v3 (F i).d (F i).D ∧ Kb 0 wr w' from HT).mono ?_
      rintro e w6 ⟨v0,v1,v2,v3,rfl,r0,r1,r2,r3,k6⟩
      obtain ⟨hc,hf,hT⟩:=(show ∀ w6 (v0 v1 v2 v3 : Value),_ from HS) w6 v0 v1 v2 v3 k6 r0 r1 r2 r3
      have HTT : Hid (∃ E : Nat → List Value,Mk 9 w1 G n E (i + 1) (setL w6 G (i * 9) [.string (F i).x,.int .i64 (F i).l,.int .i64 (F i).m,.bool (F i).r,.int .i64 (F i).g,v0,v1,v2,v3]) ∧ ∀ j,j < i + 1 → ∃ vu vc vn vd,E j = [.string (F j).x,.int .i64 (F j).l,.int .i64 (F j).m,.bool (F j).r,.int .i64 (F j).g,vu,vc,vn,vd] ∧ RowU (G + 1) (setL w6 G (i * 9) [.string (F i).x,.int .i64 (F i).l,.int .i64 (F i).m,.bool (F i).r,.int .i64 (F i).g,v0,v1,v2,v3]) vu (F j).u (F j).U ∧ RowW (G + 1) (setL w6 G (i * 9) [.string (F i).x,.int .i64 (F i).l,.int .i64 (F i).m,.bool (F i).r,.int .i64 (F i).g,v0,v1,v2,v3]) vc (F j).c (F j).C ∧ RowI (G + 1) (setL w6 G (i * 9) [.string (F i).x,.int .i64 (F i).l,.int .i64 (F i).m,.bool (F i).r,.int .i64 (F i).g,v0,v1,v2,v3]) vn (F j).n (F j).N ∧ RowM (G + 1) (setL w6 G (i * 9) [.string (F i).x,.int .i64 (F i).l,.int .i64 (F i).m,.bool (F i).r,.int .i64 (F i).g,v0,v1,v2,v3]) vd (F j).d (F j).D):=hT
      obtain ⟨u0,h0⟩:=hc 0 (by omega)
      obtain ⟨u1,h1⟩:=hc 1 (by omega)
      obtain ⟨u2,h2⟩:=hc 2 (by omega)
      obtain ⟨u3,h3⟩:=hc 3 (by omega)
      obtain ⟨u4,h4⟩:=hc 4 (by omega)
      obtain ⟨u5,h5⟩:=hc 5 (by omega)
      obtain ⟨u6,h6⟩:=hc 6 (by omega)
      obtain ⟨u7,h7⟩:=hc 7 (by omega)
      obtain ⟨u8,h8⟩:=hc 8 (by omega)
      rw [Nat.add_zero] at h0
      have e0:=hf (i * 9)
      have e1:=hf (i * 9 + 1)
      have e2:=hf (i * 9 + 2)
      have e3:=hf (i * 9 + 3)
      have e4:=hf (i * 9 + 4)
      have e5:=hf (i * 9 + 5)
      have e6:=hf (i * 9 + 6)
      have e7:=hf (i * 9 + 7)
      have e8:=hf (i * 9 + 8)
      clear hc hf hT HS HT
      obtain ⟨p0,l0,rfl,_⟩:=id r0
      obtain ⟨p1,l1,rfl,_⟩:=id r1
      obtain ⟨p2,l2,rfl,_⟩:=id r2
      obtain ⟨p3,l3,rfl,_⟩:=id r3
      clear k6 r0 r1 r2 r3 d0 d1 d2 d3 d4 d5 d6 d7 d8
      unfold prov
      go_wp2_with fail
      go_roundw
      case rel=>exact ⟨i + 1,by go_num,by omega,HTT⟩
      case measure=>simp [intOf];omega
    · obtain rfl : i = n:=by omega
      have HE : Hid (Mk 9 w1 G i E i wr ∧ (∀ j,j < i → ∃ vu vc vn vd,E j = [.string (F j).x,.int .i64 (F j).l,.int .i64 (F j).m,.bool (F j).r,.int .i64 (F j).g,vu,vc,vn,vd] ∧ RowU (G + 1) wr vu (F j).u (F j).U ∧ RowW (G + 1) wr vc (F j).c (F j).C ∧ RowI (G + 1) wr vn (F j).n (F j).N ∧ RowM (G + 1) wr vd (F j).d (F j).D) ∧ Kb 0 w wr ∧ G = w.heap.size):=(⟨hM,hR,hBW,hA.2.2.1⟩ : _ ∧ _ ∧ _ ∧ _)
      clear HI hM hR hA HA hBW
      go_wp2_with fail
      go_ret
      obtain ⟨hM,hR,hB,hG⟩:=(show Mk 9 w1 G i E i wr ∧ (∀ j,j < i → ∃ vu vc vn vd,E j = [.string (F j).x,.int .i64 (F j).l,.int .i64 (F j).m,.bool (F j).r,.int .i64 (F j).g,vu,vc,vn,vd] ∧ RowU (G + 1) wr vu (F j).u (F j).U ∧ RowW (G + 1) wr vc (F j).c (F j).C ∧ RowI (G + 1) wr vn (F j).n (F j).N ∧ RowM (G + 1) wr vd (F j).d (F j).D) ∧ Kb 0 w wr ∧ G = w.heap.size from HE)
      refine ⟨_,rfl,⟨_,_,rfl,fun _=>⟨⟨G,0,none⟩,rfl,Nat.le_refl _,(by show w.heap.size ≤ G;omega),fun j hj=>?_⟩⟩,hB⟩
      rw [addr0]
      have hce:=hM.ce j hj
      obtain ⟨uv,uu,un,ud,q1,q2,q3,q4,q5⟩:=hR j hj
      rw [q1] at hce
      exact ⟨uv,uu,un,ud,CelP.of hce,q2.mono (by omega),q3.mono (by omega),q4.mono (by omega),q5.mono (by omega)⟩
theorem eq_up (u : Bool × Int) (w : World) : Calls Tryz.prog 147 #[upv u,upv u] w fun e w'=>e = .returned (.bool true) ∧ Kb 0 w w':=by
  unfold upv
  obtain ⟨b,z⟩:=u
  have h1 : (z != z) = false:=by simp
  have h2 : (b != b) = false:=by cases b <;> rfl
  cases b
  all_goals
    go_enter Tryz.func147,Tryz.ntmps147
    go_wp2_with fail
    go_ret
    exact ⟨rfl,kb_alloc2 _ _ _ _⟩
theorem eq_ins (u : Iv) (w : World) : Calls Tryz.prog 149 #[insv u,insv u] w fun e w'=>e = .returned (.bool true) ∧ Kb 0 w w':=by
  unfold insv
  obtain ⟨o,a,b,c,d⟩:=u
  have h1 : (o != o) = false:=by simp
  have h2 : (a != a) = false:=by simp
  have h3 : (b != b) = false:=by simp
  have h4 : (c != c) = false:=by simp
  have h5 : (d != d) = false:=by simp
  go_enter Tryz.func149,Tryz.ntmps149
  go_wp2_with fail
  go_ret
  exact ⟨rfl,kb_alloc2 _ _ _ _⟩
theorem eq_nam (u : Mv) (w : World) : Calls Tryz.prog 150 #[namv u,namv u] w fun e w'=>e = .returned (.bool true) ∧ Kb 0 w w':=by
  unfold namv
  obtain ⟨x,a,b,c⟩:=u
  have h2 : (a != a) = false:=by simp
  have h3 : (b != b) = false:=by simp
  have h4 : (c != c) = false:=by simp
  go_enter Tryz.func150,Tryz.ntmps150
  go_wp2_with fail
  go_ret
  exact ⟨rfl,kb_alloc2 _ _ _ _⟩
theorem eq_valu (u : Vv) (hg : u.g < 18446744073709551616) (w : World) : Calls Tryz.prog 148 #[valv u,valv u] w fun e w'=>e = .returned (.bool true) ∧ Kb 0 w w':=by
  unfold valv
  obtain ⟨k,m,g,x,r⟩:=u
  have hsf:=same_flt g hg
  have e1 : (k != k) = false:=by simp
  have e2 : (m != m) = false:=by simp
  have e3 : (r != r) = false:=by simp
  dsimp only
  clear hg
  go_enter Tryz.func148,Tryz.ntmps148
  go_wp2_with fail
  refine (hsf _).mono ?_
  rintro e w4 ⟨rfl,rfl⟩
  go_wp2_with fail
  go_ret
  exact ⟨rfl,kb_alloc2 _ _ _ _⟩
theorem eq_pro {f : Pd} {vu vc vn vd uu uc un ud : Value} (w : World)
    (g0 : ∀ W',Kb 0 w W' → Calls Tryz.prog 118 #[vu,uu] W' fun e w'=>e = .returned (.bool true) ∧ Kb 0 W' w')
    (g1 : ∀ W',Kb 0 w W' → Calls Tryz.prog 119 #[vc,uc] W' fun e w'=>e = .returned (.bool true) ∧ Kb 0 W' w')
    (g2 : ∀ W',Kb 0 w W' → Calls Tryz.prog 120 #[vn,un] W' fun e w'=>e = .returned (.bool true) ∧ Kb 0 W' w')
    (g3 : ∀ W',Kb 0 w W' → Calls Tryz.prog 121 #[vd,ud] W' fun e w'=>e = .returned (.bool true) ∧ Kb 0 W' w') :
    Calls Tryz.prog 65 #[prov f vu vc vn vd,prov f uu uc un ud] w fun e w'=>e = .returned (.bool true) ∧ Kb 0 w w':=by
  have G0 : Hid (∀ W',Kb 0 w W' → Calls Tryz.prog 118 #[vu,uu] W' fun e w'=>e = .returned (.bool true) ∧ Kb 0 W' w'):=g0
  have G1 : Hid (∀ W',Kb 0 w W' → Calls Tryz.prog 119 #[vc,uc] W' fun e w'=>e = .returned (.bool true) ∧ Kb 0 W' w'):=g1
  have G2 : Hid (∀ W',Kb 0 w W' → Calls Tryz.prog 120 #[vn,un] W' fun e w'=>e = .returned (.bool true) ∧ Kb 0 W' w'):=g2
  have G3 : Hid (∀ W',Kb 0 w W' → Calls Tryz.prog 121 #[vd,ud] W' fun e w'=>e = .returned (.bool true) ∧ Kb 0 W' w'):=g3
  clear g0 g1 g2 g3
  unfold prov
  generalize f.x = x at *
  generalize f.l = l at *
  generalize f.m = m at *
  generalize f.r = r at *
  generalize f.g = g at *
  have e1 : (l != l) = false:=by simp
  have e2 : (m != m) = false:=by simp
  have e3 : (r != r) = false:=by cases r <;> rfl
  have e4 : (g != g) = false:=by simp
  obtain ⟨w2,hw2⟩ : ∃ w2,w2 = (w.alloc (.cells #[.string x,.int .i64 l,.int .i64 m,.bool r,.int .i64 g,vu,vc,vn,vd] 50)).alloc (.cells #[.string x,.int .i64 l,.int .i64 m,.bool r,.int .i64 g,uu,uc,un,ud] 50):=⟨_,rfl⟩
  have k2 : Kb 0 w w2:=by rw [hw2];exact kb_alloc2 _ _ _ _
  have b0 : w2.heap[w.heap.size]? = some (.cells #[.string x,.int .i64 l,.int .i64 m,.bool r,.int .i64 g,vu,vc,vn,vd] 50 (0,0)):=by
    rw [hw2,(kb_alloc 0 _ _).block _ (Nat.zero_le _) (by rw [World.size_alloc];omega)]
    exact alloc_new _ _ _
  have b1 : w2.heap[w.heap.size + 1]? = some (.cells #[.string x,.int .i64 l,.int .i64 m,.bool r,.int .i64 g,uu,uc,un,ud] 50 (0,0)):=by
    have e : (w.alloc (.cells #[.string x,.int .i64 l,.int .i64 m,.bool r,.int .i64 g,vu,vc,vn,vd] 50)).heap.size = w.heap.size + 1:=World.size_alloc _ _
    rw [hw2,← e]
    exact alloc_new _ _ _
  have HK : Hid (Kb 0 w w2 ∧ w2.heap[w.heap.size]? = some (.cells #[.string x,.int .i64 l,.int .i64 m,.bool r,.int .i64 g,vu,vc,vn,vd] 50 (0,0)) ∧ w2.heap[w.heap.size + 1]? = some (.cells #[.string x,.int .i64 l,.int .i64 m,.bool r,.int .i64 g,uu,uc,un,ud] 50 (0,0)) ∧ w.heap.size + 1 < w2.heap.size):=(⟨k2,b0,b1,by rw [hw2];simp⟩ : _ ∧ _)
  have HW : Hid (w2 = (w.alloc (.cells #[.string x,.int .i64 l,.int .i64 m,.bool r,.int .i64 g,vu,vc,vn,vd] 50)).alloc (.cells #[.string x,.int .i64 l,.int .i64 m,.bool r,.int .i64 g,uu,uc,un,ud] 50)):=hw2
  clear hw2 k2 b0 b1
  go_enter Tryz.func65,Tryz.ntmps65
  go_wp2_with fail
  rw [← (show w2 = _ from HW)]
  clear HW
  refine ((show ∀ W',Kb 0 w W' → Calls Tryz.prog 118 #[vu,uu] W' fun e w'=>e = .returned (.bool true) ∧ Kb 0 W' w' from G0) w2 HK.1).mono ?_
  rintro e x0 ⟨rfl,k0⟩
  have HL : Hid (Kb 0 w x0 ∧ x0.heap[w.heap.size]? = some (.cells #[.string x,.int .i64 l,.int .i64 m,.bool r,.int .i64 g,vu,vc,vn,vd] 50 (0,0)) ∧ x0.heap[w.heap.size + 1]? = some (.cells #[.string x,.int .i64 l,.int .i64 m,.bool r,.int .i64 g,uu,uc,un,ud] 50 (0,0)) ∧ w.heap.size + 1 < x0.heap.size):=by
    obtain ⟨q1,q2,q3,q4⟩:=(show Kb 0 w w2 ∧ w2.heap[w.heap.size]? = some (.cells #[.string x,.int .i64 l,.int .i64 m,.bool r,.int .i64 g,vu,vc,vn,vd] 50 (0,0)) ∧ w2.heap[w.heap.size + 1]? = some (.cells #[.string x,.int .i64 l,.int .i64 m,.bool r,.int .i64 g,uu,uc,un,ud] 50 (0,0)) ∧ w.heap.size + 1 < w2.heap.size from HK)
    have q5:=k0.size
    exact ⟨q1.trans k0,(k0.block _ (Nat.zero_le _) (by omega)).trans q2,(k0.block _ (Nat.zero_le _) (by omega)).trans q3,by omega⟩
  clear HK
  have HK:=HL
  clear HL k0 G0
  have c0 : x0.cell? ⟨w.heap.size,6,none⟩ = some (vc):=cell_of HK.2.1 rfl
  have d0 : x0.cell? ⟨w.heap.size + 1,6,none⟩ = some (uc):=cell_of HK.2.2.1 rfl
  go_wp2_with fail
  clear c0 d0
  refine ((show ∀ W',Kb 0 w W' → Calls Tryz.prog 119 #[vc,uc] W' fun e w'=>e = .returned (.bool true) ∧ Kb 0 W' w' from G1) x0 HK.1).mono ?_
  rintro e x1 ⟨rfl,k1⟩
  have HL : Hid (Kb 0 w x1 ∧ x1.heap[w.heap.size]? = some (.cells #[.string x,.int .i64 l,.int .i64 m,.bool r,.int .i64 g,vu,vc,vn,vd] 50 (0,0)) ∧ x1.heap[w.heap.size + 1]? = some (.cells #[.string x,.int .i64 l,.int .i64 m,.bool r,.int .i64 g,uu,uc,un,ud] 50 (0,0)) ∧ w.heap.size + 1 < x1.heap.size):=by
    obtain ⟨q1,q2,q3,q4⟩:=(show Kb 0 w x0 ∧ x0.heap[w.heap.size]? = some (.cells #[.string x,.int .i64 l,.int .i64 m,.bool r,.int .i64 g,vu,vc,vn,vd] 50 (0,0)) ∧ x0.heap[w.heap.size + 1]? = some (.cells #[.string x,.int .i64 l,.int .i64 m,.bool r,.int .i64 g,uu,uc,un,ud] 50 (0,0)) ∧ w.heap.size + 1 < x0.heap.size from HK)
    have q5:=k1.size
    exact ⟨q1.trans k1,(k1.block _ (Nat.zero_le _) (by omega)).trans q2,(k1.block _ (Nat.zero_le _) (by omega)).trans q3,by omega⟩
  clear HK
  have HK:=HL
  clear HL k1 G1
  have c1 : x1.cell? ⟨w.heap.size,7,none⟩ = some (vn):=cell_of HK.2.1 rfl
  have d1 : x1.cell? ⟨w.heap.size + 1,7,none⟩ = some (un):=cell_of HK.2.2.1 rfl
  go_wp2_with fail
  clear c1 d1
  refine ((show ∀ W',Kb 0 w W' → Calls Tryz.prog 120 #[vn,un] W' fun e w'=>e = .returned (.bool true) ∧ Kb 0 W' w' from G2) x1 HK.1).mono ?_
  rintro e x2 ⟨rfl,k2⟩
  have HL : Hid (Kb 0 w x2 ∧ x2.heap[w.heap.size]? = some (.cells #[.string x,.int .i64 l,.int .i64 m,.bool r,.int .i64 g,vu,vc,vn,vd] 50 (0,0)) ∧ x2.heap[w.heap.size + 1]? = some (.cells #[.string x,.int .i64 l,.int .i64 m,.bool r,.int .i64 g,uu,uc,un,ud] 50 (0,0)) ∧ w.heap.size + 1 < x2.heap.size):=by
    obtain ⟨q1,q2,q3,q4⟩:=(show Kb 0 w x1 ∧ x1.heap[w.heap.size]? = some (.cells #[.string x,.int .i64 l,.int .i64 m,.bool r,.int .i64 g,vu,vc,vn,vd] 50 (0,0)) ∧ x1.heap[w.heap.size + 1]? = some (.cells #[.string x,.int .i64 l,.int .i64 m,.bool r,.int .i64 g,uu,uc,un,ud] 50 (0,0)) ∧ w.heap.size + 1 < x1.heap.size from HK)
    have q5:=k2.size
    exact ⟨q1.trans k2,(k2.block _ (Nat.zero_le _) (by omega)).trans q2,(k2.block _ (Nat.zero_le _) (by omega)).trans q3,by omega⟩
  clear HK
  have HK:=HL
  clear HL k2 G2
  have c2 : x2.cell? ⟨w.heap.size,8,none⟩ = some (vd):=cell_of HK.2.1 rfl
  have d2 : x2.cell? ⟨w.heap.size + 1,8,none⟩ = some (ud):=cell_of HK.2.2.1 rfl
  go_wp2_with fail
  clear c2 d2
  refine ((show ∀ W',Kb 0 w W' → Calls Tryz.prog 121 #[vd,ud] W' fun e w'=>e = .returned (.bool true) ∧ Kb 0 W' w' from G3) x2 HK.1).mono ?_
  rintro e x3 ⟨rfl,k3⟩
  have HL : Hid (Kb 0 w x3 ∧ x3.heap[w.heap.size]? = some (.cells #[.string x,.int .i64 l,.int .i64 m,.bool r,.int .i64 g,vu,vc,vn,vd] 50 (0,0)) ∧ x3.heap[w.heap.size + 1]? = some (.cells #[.string x,.int .i64 l,.int .i64 m,.bool r,.int .i64 g,uu,uc,un,ud] 50 (0,0)) ∧ w.heap.size + 1 < x3.heap.size):=by
    obtain ⟨q1,q2,q3,q4⟩:=(show Kb 0 w x2 ∧ x2.heap[w.heap.size]? = some (.cells #[.string x,.int .i64 l,.int .i64 m,.bool r,.int .i64 g,vu,vc,vn,vd] 50 (0,0)) ∧ x2.heap[w.heap.size + 1]? = some (.cells #[.string x,.int .i64 l,.int .i64 m,.bool r,.int .i64 g,uu,uc,un,ud] 50 (0,0)) ∧ w.heap.size + 1 < x2.heap.size from HK)
    have q5:=k3.size
    exact ⟨q1.trans k3,(k3.block _ (Nat.zero_le _) (by omega)).trans q2,(k3.block _ (Nat.zero_le _) (by omega)).trans q3,by omega⟩
  clear HK
  have HK:=HL
  clear HL k3 G3
  go_wp2_with fail
  go_ret
  exact ⟨rfl,HK.1⟩
end Go.Proofs.YtnmeemjoodoalaaGreatDoor.Fo
