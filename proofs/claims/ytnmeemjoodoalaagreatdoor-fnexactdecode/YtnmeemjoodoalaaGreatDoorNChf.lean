import Derived.Test.YtnmeemjoodoalaaGreatDoorNChe
import Derived.Test.YtnmeemjoodoalaaGreatDoorNCde
import Derived.Test.YtnmeemjoodoalaaGreatDoorNCeb
import Derived.Test.YtnmeemjoodoalaaGreatDoorNCdc
set_option maxHeartbeats 8000000
namespace Go.Proofs.YtnmeemjoodoalaaGreatDoor.Fo
open Go.ChangeShapes Go.WideShapes Go.ChangeAt Go.RowKit
set_option linter.unusedVariables false
set_option maxRecDepth 100000
theorem im_unmade {B p np : Nat} {F : Nat → Pd} {L : List Int} {v m : Value} (w : World) (hz : Zt B 1 L v m w) (hL : ∀ x, x ∈ L ↔ MB F np 0 x) (hp : p ≤ 1048576) :
    Calls Tryz.prog 51 #[.pointer (some ⟨B,0,none⟩),.int .i64 (p : Int)] w fun e w'=>∃ r : Int,e = .returned (.int .i64 r) ∧ Fb (fun _=>P7 np F p) 1 r ∧ Kb 0 w w':=by
  have HH:=fun W (k : Kb 0 w W)=>im_has (p : Int) W (hz.on k)
  have HT : P7 np F p → Fb (fun _=>P7 np F p) 1 (-1):=fun h=>.inl ⟨rfl,fun _ _=>h⟩
  have HF : ¬ P7 np F p → Fb (fun _=>P7 np F p) 1 0:=fun h=>.inr ⟨0,rfl,by omega,h,fun i hi=>by omega⟩
  by_cases h0 : p = 0
  · have HX:=HT (.inl h0)
    have g0 : ((p : Int) == 0) = true:=beq1 (by omega)
    clear HT HF HH hL hz
    go_enter Tryz.func51,Tryz.ntmps51
    go_wp2_with fail
    try go_quiet (skip)
    all_goals try go_wp2_with fail
    all_goals
      go_ret
      exact ⟨_,rfl,HX,by first | exact Kb.refl _ _ | exact (Kb.refl _ _).drewN _⟩
  have g0 : ((p : Int) == 0) = false:=bne (by omega)
  by_cases hm : (p : Int) ∈ L
  · have HX:=HT (.inr ((hL _).1 hm))
    rw [dc_t hm] at HH
    clear HT HF hL hm
    go_enter Tryz.func51,Tryz.ntmps51
    go_wp2_with (first | (go_at_call 111;refine (HH _ (Kb.refl _ _)).mono ?_;rintro e w1 ⟨rfl,rfl⟩))
    go_ret
    exact ⟨_,rfl,HX,Kb.refl _ _⟩
  · have HX:=HF (fun q=>q.elim h0 (fun q=>hm ((hL _).2 q)))
    rw [dc_f hm] at HH
    clear HT HF hL hm
    go_enter Tryz.func51,Tryz.ntmps51
    go_wp2_with (first | (go_at_call 111;refine (HH _ (Kb.refl _ _)).mono ?_;rintro e w1 ⟨rfl,rfl⟩))
    go_ret
    exact ⟨_,rfl,HX,Kb.refl _ _⟩
theorem im_sized {pa : Option Addr} {np ca : Nat} {F : Nat → Pd} (w : World) (hpa : 0 < np → ∃ A : Addr, pa = some A ∧ np ≤ ca ∧ 0 ≤ A.block ∧ ∀ i, i < np → ProC 0 w (A.add (i * 9)) (F i)) (hb : Bd np F) :
    Calls Tryz.prog 45 #[.agg #[.slice pa np ca]] w fun e w'=>e = .returned (.bool (dc (Szu np F))) ∧ Kb 0 w w':=by
  have hnI : (np : Int) ≤ 1048576:=by have:=hb.hnp;omega
  obtain ⟨w1,hw1⟩ : ∃ w1,w1 = w.alloc (.cells #[.slice pa np ca] 30):=⟨_,rfl⟩
  have k1 : Kb 0 w w1:=by rw [hw1];exact kb_alloc _ _ _
  have c0 : w1.cell? ⟨w.heap.size,0,none⟩ = some (.slice pa np ca):=by rw [hw1];exact cell_of (alloc_new _ _ _) rfl
  have HS : Hid (Kb 0 w w1 ∧ w1.cell? ⟨w.heap.size,0,none⟩ = some (.slice pa np ca) ∧ (0 < np → ∃ A : Addr,pa = some A ∧ np ≤ ca ∧ ∀ i,i < np → ProC 0 w1 (A.add (i * 9)) (F i)) ∧ Bd np F):=(⟨k1,c0,fun h=>by
    obtain ⟨A,e,hc,-,hf⟩:=hpa h
    exact ⟨A,e,hc,fun i hi=>(hf i hi).keep (Nat.zero_le _) k1⟩,hb⟩ : _ ∧ _)
  obtain ⟨R,hR⟩ : ∃ R,R = dc (Szu np F):=⟨_,rfl⟩
  rw [← hR]
  have HR : Hid (R = dc (Szu np F)):=hR
  have HW : Hid (w1 = _):=hw1
  clear hR hw1 k1 c0 hpa hb
  go_enter Tryz.func45,Tryz.ntmps45
  go_wp2_with fail
  rw [← (show w1 = _ from HW)]
  clear HW
  go_loopw [3,9] (fun s3 s9 wr=>∃ i : Nat,s9 = .int .i64 (i : Int) ∧ i ≤ np ∧ s3 = .int .i64 (sm (fun i=>(F i).n) i : Int) ∧ Hid (Kb 0 w1 wr)) (fun _ s9 _=>np - (intOf s9).toNat)
  case atStart=>exact ⟨0,rfl,Nat.zero_le _,rfl,Kb.refl _ _⟩
  case round =>
    obtain ⟨i,rfl,hi,rfl,HK⟩:=hrel
    obtain ⟨k1,c0,hfn,hb⟩:=(show Kb 0 w w1 ∧ w1.cell? ⟨w.heap.size,0,none⟩ = some (.slice pa np ca) ∧ (0 < np → ∃ A : Addr,pa = some A ∧ np ≤ ca ∧ ∀ i,i < np → ProC 0 w1 (A.add (i * 9)) (F i)) ∧ Bd np F from HS)
    have kw:=(show Kb 0 w1 wr from HK)
    rcases Nat.lt_or_ge i np with h | h
    · have hI : (i : Int) < (np : Int):=by omega
      obtain ⟨A,rfl,hca,hf⟩:=hfn (by omega)
      obtain ⟨vu,vc,vn,vd,⟨d0,d1,d2,d3,d4,d5,d6,d7,d8⟩,hvu,hvc,hvn,hvd⟩:=(hf i h).keep (Nat.zero_le _) kw
      obtain ⟨pu,cu,rfl,-⟩:=hvu
      obtain ⟨pc,cc,rfl,-⟩:=hvc
      obtain ⟨pn,cn,rfl,-⟩:=hvn
      obtain ⟨pm,cm,rfl,-⟩:=hvd
      have hs:=hb.hsm
      have hmo:=sm_mono (fun i=>(F i).n) (show i + 1 ≤ np from h)
      have hsu : sm (fun i=>(F i).n) (i + 1) = sm (fun i=>(F i).n) i + (F i).n:=rfl
      obtain ⟨x,hx⟩ : ∃ x,x = sm (fun i=>(F i).n) i:=⟨_,rfl⟩
      have HX : Hid (sm (fun i=>(F i).n) (i + 1) = x + (F i).n):=by rw [hx];exact hsu
      have hx1 : (x : Int) ≤ 1048576:=by omega
      have hx2 : (x : Int) + ((F i).n : Int) ≤ 1048576:=by omega
      rw [← hx]
      have HK2 : Hid (∀ o,Kb 0 w1 (wr.alloc o)):=(fun o=>kw.alloc o : ∀ o,_)
      clear hs hmo hsu hx HK HS k1 c0 hfn hb kw hf HR
      go_wp2_with fail
      go_roundw
      case rel=>exact ⟨i + 1,by go_num,by omega,by rw [show sm (fun i=>(F i).n) (i + 1) = x + (F i).n from HX];go_num,(show ∀ o,Kb 0 w1 (wr.alloc o) from HK2) _⟩
      case measure=>simp [intOf];omega
    · obtain rfl : np = i:=by omega
      have hI : ¬ (np : Int) < (np : Int):=by omega
      have c2:=kw.cell c0
      have hR:=(show R = dc (Szu np F) from HR)
      obtain ⟨x,hx⟩ : ∃ x,x = sm (fun i=>(F i).n) np:=⟨_,rfl⟩
      rw [← hx]
      have hsz : Szu np F ↔ 0 < np ∧ np ≤ 200 ∧ x ≤ 6000:=by unfold Szu;rw [← hx]
      have HKW : Hid (Kb 0 w wr):=k1.trans kw
      clear HK HS k1 c0 hfn hb kw HR hx h
      by_cases h1 : 0 < np
      rotate_left
      · have hF : R = false:=by rw [hR];exact dc_f (fun q=>h1 (hsz.1 q).1)
        subst hF
        have g1 : ¬ (0 : Int) < (np : Int):=by omega
        clear hsz hR h1
        go_wp2_with fail
        go_ret
        exact ⟨rfl,HKW⟩
      have g1 : (0 : Int) < (np : Int):=by omega
      by_cases h2 : np ≤ 200
      rotate_left
      · have hF : R = false:=by rw [hR];exact dc_f (fun q=>h2 (hsz.1 q).2.1)
        subst hF
        have g2 : ¬ (np : Int) ≤ 200:=by omega
        clear hsz hR h1 h2
        go_wp2_with fail
        go_ret
        exact ⟨rfl,HKW⟩
      have g2 : (np : Int) ≤ 200:=by omega
      by_cases h3 : x ≤ 6000
      · have hF : R = true:=by rw [hR];exact dc_t (hsz.2 ⟨h1,h2,h3⟩)
        subst hF
        have g3 : (x : Int) ≤ 6000:=by omega
        clear hsz hR h1 h2
        go_wp2_with fail
        go_ret
        exact ⟨by first | rfl | simp [g3] | simp [h3],HKW⟩
      · have hF : R = false:=by rw [hR];exact dc_f (fun q=>h3 (hsz.1 q).2.2)
        subst hF
        have g3 : ¬ (x : Int) ≤ 6000:=by omega
        clear hsz hR h1 h2
        go_wp2_with fail
        go_ret
        exact ⟨by first | rfl | simp [g3] | simp [h3],HKW⟩
def mfn (c : Nat) : Nat :=
  match c with
  | 2=>46
  | 3=>47
  | 4=>48
  | 5=>49
  | 6=>50
  | _=>51
structure Cst (w : World) (A : Addr) (nf ca B : Nat) (F : Nat → Pd) (c f : Nat) (L : List Int) (v m : Value) (W : World) : Prop where
  kb : Kb 0 w W
  cb : W.cell? ⟨B,0,none⟩ = some (.slice (some A) nf ca)
  hB : w.heap.size ≤ B
  zt : Zt B 1 L v m W
  ob : Ob w.heap.size v m
  mak : c = 6 → (∀ x,x ∈ L ↔ MB F f 0 x)
  fin : c = 7 → (∀ x,x ∈ L ↔ MB F nf 0 x)
  len : c = 6 → L.length ≤ f * 1048576
theorem Cst.on {w : World} {A : Addr} {nf ca B : Nat} {F : Nat → Pd} {c f : Nat} {L : List Int} {v m : Value} {W W' : World} (h : Cst w A nf ca B F c f L v m W) (h8 : c ≠ 6) (k : Kb 0 W W') : Cst w A nf ca B F c (f + 1) L v m W' :=
  ⟨h.kb.trans k,k.cell h.cb,h.hB,h.zt.on k,h.ob,fun e=>absurd e h8,h.fin,fun e=>absurd e h8⟩
theorem Cst.alloc {w : World} {A : Addr} {nf ca B : Nat} {F : Nat → Pd} {c f : Nat} {L : List Int} {v m : Value} {W W' : World} (h : Cst w A nf ca B F c f L v m W) (k : Kb 0 W W') : Cst w A nf ca B F c f L v m W' :=
  ⟨h.kb.trans k,k.cell h.cb,h.hB,h.zt.on k,h.ob,h.mak,h.fin,h.len⟩
theorem Cst.lt {w : World} {A : Addr} {nf ca B : Nat} {F : Nat → Pd} {c f : Nat} {L : List Int} {v m : Value} {W : World} (h : Cst w A nf ca B F c f L v m W) : B < W.heap.size:=lt_of_cell' h.cb
theorem im_meth {w W : World} {A : Addr} {nf ca B c f : Nat} {F : Nat → Pd} {L : List Int} {v m : Value} (hgd : Gd w) (hfn : ∀ i, i < nf → ProC 0 w (A.add (i * 9)) (F i)) (hb : Bd nf F) (hz : Szu nf F) (h2 : 2 ≤ c) (h9 : c ≤ 7) (hf : f < nf) (hl : ∀ c', 2 ≤ c' → c' < c → La (PQ F nf c') (LQ F c') nf) (st : Cst w A nf ca B F c f L v m W) :
    Calls Tryz.prog (mfn c) #[.pointer (some ⟨B,0,none⟩),.int .i64 (f : Int)] W fun e w'=>∃ r : Int,e = .returned (.int .i64 r) ∧ Fb (PQ F nf c f) (LQ F c f) r ∧ ∃ v' m',Ks B 1 v m v' m' W w' ∧ (r = -1 → ∃ L',Cst w A nf ca B F c (f + 1) L' v' m' w' ∧ (c ≠ 6 → L' = L)):=by
  have hfW:=(hfn f hf).keep (Nat.zero_le _) st.kb
  have hBl:=st.lt
  have key : ∀ {e : Ending} {w' : World} {P : Nat → Prop} {n : Nat} {r : Int},c ≠ 6 → e = .returned (.int .i64 r) → Fb P n r → Kb 0 W w' → (P = PQ F nf c f ∧ n = LQ F c f) → ∃ r : Int,e = .returned (.int .i64 r) ∧ Fb (PQ F nf c f) (LQ F c f) r ∧ ∃ v' m',Ks B 1 v m v' m' W w' ∧ (r = -1 → ∃ L',Cst w A nf ca B F c (f + 1) L' v' m' w' ∧ (c ≠ 6 → L' = L)):=by
    intro e w' P n r h8 he hr hk hP
    obtain ⟨rfl,rfl⟩:=hP
    exact ⟨r,he,hr,v,m,Ks.of_kb hk hBl,fun _=>⟨L,st.on h8 hk,fun _=>rfl⟩⟩
  have hh : 2 < c → (0 ≤ (F f).g ∧ (F f).g ≤ 250):=fun h=>(show Hd f (F f) from hl 2 (by omega) h f hf 0 (show 0 < 1 by omega)).2.2.1
  obtain ⟨vu,vc,vn,vd,hce,hvu,hvc,hvn,hvd⟩:=hfW
  have hvu1:=hvu
  have hvc1:=hvc
  have hvn1:=hvn
  have hvd1:=hvd
  obtain ⟨pu,cu,rfl,-⟩:=hvu
  obtain ⟨pc,cc,rfl,-⟩:=hvc
  obtain ⟨pn,cn,rfl,-⟩:=hvn
  obtain ⟨pm,cm,rfl,-⟩:=hvd
  rcases (show c = 2 ∨ c = 3 ∨ c = 4 ∨ c = 5 ∨ c = 6 ∨ c = 7 by omega) with rfl | rfl | rfl | rfl | rfl | rfl
  · refine (im_whead W hf hb.hnp st.cb hce (hb.hu f hf) (hb.hc f hf) (hb.hg f hf)).mono ?_
    rintro e w' ⟨r,he,hr,hk⟩
    exact key (by omega) he hr hk ⟨rfl,rfl⟩
  · refine (im_wconst W hf hb.hnp st.cb hce hvc1 (hb.hc f hf) (hb.hC f hf)).mono ?_
    rintro e w' ⟨r,he,hr,hk⟩
    exact key (by omega) he hr hk ⟨rfl,rfl⟩
  · refine (im_wnamed W hf hb.hnp st.cb hce hvd1 (hb.hd f hf) (hb.hn f hf) (hh (by omega))).mono ?_
    rintro e w' ⟨r,he,hr,hk⟩
    exact key (by omega) he hr hk ⟨rfl,rfl⟩
  · refine (im_wins W hf hb.hnp st.cb (hgd.keep st.kb) hce hvn1 (hb.hu f hf) (hb.hc f hf) (hb.hn f hf) (hh (by omega))).mono ?_
    rintro e w' ⟨r,he,hr,hk⟩
    exact key (by omega) he (show Fb (PQ F nf 5 f) (LQ F 5 f) r from hr) hk ⟨rfl,rfl⟩
  · have hr6 : ∀ i, i < (F f).n → ((F f).N i).o = 11 → 0 ≤ ((F f).N i).b ∧ ((F f).N i).b ≤ (nf : Int) - 1 := fun i hi ho => by
      have h5:=hl 5 (by omega) (by omega) f hf i (by show i < L5 F f;unfold L5;split <;> omega)
      exact fn_rng (show P5 nf F f i from h5).2.1 ho
    have hlf : L.length ≤ 9000000000:=by
      have h1:=st.len rfl
      have h2 : f ≤ 200:=by have:=hz.2.1;omega
      have : f * 1048576 ≤ 200 * 1048576:=Nat.mul_le_mul_right _ h2
      omega
    refine (im_wfn w W hfn hf hb.hnp (hb.hn f hf) hb.hu hr6 ⟨st.kb,st.cb,st.hB,st.zt,st.ob⟩ (st.mak rfl) hlf).mono ?_
    rintro e w' ⟨r,he,hr,v',m',hk,hN⟩
    refine ⟨r,he,hr,v',m',hk,fun e1=>?_⟩
    obtain ⟨L',s1,s2,s3⟩:=hN e1
    refine ⟨L',⟨s1.kb,s1.cb,s1.hB,s1.zt,s1.ob,fun _=>s2,fun e=>by omega,fun _=>?_⟩,fun e=>absurd rfl e⟩
    have h1:=st.len rfl
    have h3:=hb.hn f hf
    have : (f + 1) * 1048576 = f * 1048576 + 1048576:=Nat.succ_mul _ _
    omega
  · refine (im_unmade (p:=f) W st.zt (st.fin rfl) (by have:=hb.hnp;omega)).mono ?_
    rintro e w' ⟨r,he,hr,hk⟩
    exact key (by omega) he (show Fb (PQ F nf 7 f) (LQ F 7 f) r from hr) hk ⟨rfl,rfl⟩
end Go.Proofs.YtnmeemjoodoalaaGreatDoor.Fo
