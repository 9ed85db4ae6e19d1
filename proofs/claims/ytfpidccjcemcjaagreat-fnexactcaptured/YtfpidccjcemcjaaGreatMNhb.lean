import Derived.Test.YtfpidccjcemcjaaGreatMZsq
import Derived.Test.YtfpidccjcemcjaaGreatMNha
set_option maxHeartbeats 16000000
namespace Go.Proofs.YtfpidccjcemcjaaGreat.Fo
open Go.ChangeShapes Go.WideShapes Go.ChangeAt Go.RowKit
set_option linter.unusedVariables false
set_option maxRecDepth 100000
theorem Sco.len {W:World}:∀ (m m':List Vs) {p:Value},Sco W p m→Sco W p m'→m.length=m'.length
 | [],[],_,_,_=>rfl
 | [],v :: r,p,h,⟨B,q,s,h1,_⟩=>by rw [show p = .pointer none from h] at h1;cases h1
 | v :: r,[],p,⟨B,q,s,h1,_⟩,h=>by rw [show p = .pointer none from h] at h1;cases h1
 | v :: r,v' :: r',p,⟨B,q,s,h1,h2,h3,h4,h5,h6⟩,⟨B',q',s',g1,g2,g3,g4,g5,g6⟩=>by
  rw [h1] at g1
  have e:B=B':=by simpa using g1
  subst e
  have e2:q=q':=by have:=h2.symm.trans g2;simpa using this
  subst e2
  have:=Sco.len r r' h6 g6
  simp [this]
open Classical in
noncomputable def chl (W:World) (p:Value):Nat:=if h:∃ m,Sco W p m then (Classical.choose h).length else 0
theorem chl_eq {W:World} {p:Value} {m:List Vs} (h:Sco W p m):chl W p=m.length:=by
 unfold chl
 rw [dif_pos ⟨m,h⟩]
 exact Sco.len _ _ (Classical.choose_spec (⟨m,h⟩:∃ m,Sco W p m)) h
theorem im_holds (x : Int) {p : Value} {l : List Vs} (w : World) (h : Sco w p l) :
    Calls Tryz.prog 102 #[p,.int .i64 x] w fun e w'=>e = .returned (.bool (dc (inS x l)))∧w'=w:=by
  obtain ⟨R,hR⟩:∃ R,R=dc (inS x l):=⟨_,rfl⟩
  rw [← hR]
  have HR:Hid (R=dc (inS x l)):=hR
  have HS:Hid (Sco w p l):=h
  have hp:(∃ a,p = .pointer a):=by
    cases l with
    | nil=>exact ⟨_,h⟩
    | cons v r=>obtain ⟨B,q,s,h1,_⟩:=h;exact ⟨_,h1⟩
  obtain ⟨a,rfl⟩:=hp
  clear hR h
  go_enter Tryz.func102,Tryz.ntmps102
  go_wp2_with fail
  go_loopw [5] (fun s5 wr=>∃ (m:List Vs) (b:Option Addr),s5 = .pointer b∧wr=w∧Hid (Sco w (.pointer b) m∧(inS x l↔inS x m))) (fun s5 wr=>chl wr s5)
  case atStart=>exact ⟨l,a,rfl,rfl,(⟨HS,Iff.rfl⟩:_∧_)⟩
  case round =>
    clear HS
    obtain ⟨m,b,rfl,rfl,HX⟩:=hrel
    obtain ⟨hS,hiff⟩:=(uh HX)
    cases m with
    | nil =>
      have e:b=none:=by have:(Value.pointer b) = .pointer none:=hS;simpa using this
      subst e
      have hF:R=false:=by
        rw [show R = _ from HR]
        exact dc_f (fun g=>by obtain ⟨v,hv,_⟩:=hiff.1 g;cases hv)
      subst hF
      clear HX hS hiff HR
      go_wp2_with fail
      go_ret
      exact ⟨rfl,rfl⟩
    | cons v r =>
      obtain ⟨B,q,s,h1,h2,h3,h4,h5,h6⟩:=hS
      have e:b=some ⟨B,0,none⟩:=by simpa using h1
      subst e
      have hq:∃ b',q = .pointer b':=by
        cases r with
        | nil=>exact ⟨_,h6⟩
        | cons v' r'=>obtain ⟨B',q',s',g1,_⟩:=h6;exact ⟨_,g1⟩
      obtain ⟨b',rfl⟩:=hq
      have HC:=im_ctv x wr h4 h5
      have HM:Hid (chl wr (.pointer b') < chl wr (.pointer (some ⟨B,0,none⟩))):=by
        show _ < _
        rw [chl_eq h6,chl_eq (show Sco wr (.pointer (some ⟨B,0,none⟩)) (v :: r) from ⟨B,_,s,rfl,h2,h3,h4,h5,h6⟩)]
        simp
      by_cases c:∃ j,j < v.1∧x=v.2 j
      · have hF : R = true := by
          rw [show R = _ from HR]
          exact dc_t (hiff.2 ⟨v,List.mem_cons_self ..,c⟩)
        subst hF
        rw [dc_t c] at HC
        obtain ⟨ps,cs,rfl,-⟩:=h4
        clear HX hiff HR c h6 HM
        go_wp2_with fail
        refine HC.mono ?_
        rintro e w1 ⟨rfl,rfl⟩
        go_wp2_with fail
        go_ret
        exact ⟨rfl,rfl⟩
      · have HN : Hid (Sco wr (.pointer b') r ∧ (inS x l ↔ inS x r)) := (⟨h6, hiff.trans ⟨fun ⟨u, hu, hj⟩ => by
          rcases List.mem_cons.1 hu with e | e
          · subst e;exact absurd hj c
          · exact ⟨u,e,hj⟩,fun ⟨u,hu,hj⟩=>⟨u,List.mem_cons_of_mem _ hu,hj⟩⟩⟩:_∧_)
        rw [dc_f c] at HC
        obtain ⟨ps,cs,rfl,-⟩:=h4
        clear HX hiff HR c h6
        go_wp2_with fail
        refine HC.mono ?_
        rintro e w1 ⟨rfl,rfl⟩
        go_wp2_with fail
        go_roundw
        case rel=>exact ⟨r,b',rfl,by trivial,HN⟩
        case measure=>exact HM
theorem sp_place {v : Value} {p : Nat} {A : Nat → Int} (x : Int) (w : World) (hr : RowV w v p (fun i => .int .i64 (A i))) (hp : p ≤ 1048576) :
    Calls Tryz.prog 76 #[v,.int .i64 x] w fun e w'=>∃ r:Int,e = .returned (.int .i64 r)∧Fb (fun j=>¬ A j=x) p r∧w'=w:=by
  obtain ⟨pa,ca,rfl,hr2⟩:=hr
  have hpI:(p:Int)≤1048576:=by omega
  have HR:Hid (0 < p→∃ a:Addr,pa=some a∧p≤ca∧∀ i,i < p→w.cell? (a.add i)=some (.int .i64 (A i))):=hr2
  clear hr2 hp
  go_enter Tryz.func76,Tryz.ntmps76
  go_wp2_with fail
  go_loopw [9] (fun s8 wr=>∃ i:Nat,s8 = .int .i64 (i:Int)∧i≤p∧wr=w∧Hid (∀ j,j < i→¬ A j=x)) (fun s8 _=>p - (intOf s8).toNat)
  case atStart=>exact ⟨0,rfl,Nat.zero_le _,rfl,(fun j hj=>by omega:∀ j,_)⟩
  case round =>
    obtain ⟨i,rfl,hin,rfl,HI⟩:=hrel
    have ha:=(uh HI)
    rcases Nat.lt_or_ge i p with hi | hi
    · have hiI:(i:Int) < (p:Int):=by omega
      obtain ⟨a,rfl,hca,hra⟩:=(uh HR) (by omega)
      have qa:wr.cell? (a.add i)=some (.int .i64 (A i)):=hra i hi
      by_cases hn:A i=x
      · have HX:Hid (Fb (fun j=>¬ A j=x) p (i:Int)):=Or.inr ⟨i,rfl,hi,fun g=>g hn,ha⟩
        have g:=beq1 hn
        clear HI ha hra hn
        generalize A i=y at *
        go_wp2_with fail
        go_ret
        exact ⟨(i:Int),rfl,HX,rfl⟩
      · have HX : Hid (∀ j, j < i + 1 → ¬ A j = x) := (fun j hj => by
          by_cases e:j=i
          · rw [e];exact hn
          · exact ha j (by omega):∀ j,_)
        have g:=bne hn
        clear HI ha hra hn
        generalize A i=y at *
        go_wp2_with fail
        go_roundw
        case rel=>exact ⟨i+1,by go_num,by omega,by trivial,HX⟩
        case measure=>simp [intOf];omega
    · obtain rfl:i=p:=by omega
      have HX:Hid (Fb (fun j=>¬ A j=x) i (-1)):=Or.inl ⟨rfl,ha⟩
      clear HR ha HI
      go_wp2_with fail
      go_ret
      exact ⟨-1,rfl,HX,rfl⟩
theorem im_forlast (k:Int) (w:World):Calls Tryz.prog 100 #[.int .i64 k] w fun e w'=>e = .returned (.bool (dc (k=7∨k=8∨k=12)))∧w'=w:=by
 by_cases h0:k=7
 ·rw [dc_t (.inl h0)]
  have g0:=beq1 h0
  clear h0
  go_enter Tryz.func100,Tryz.ntmps100
  go_wp2_with fail
  go_ret
  exact ⟨rfl,rfl⟩
 ·have g0:=bne h0
  by_cases h1:k=8
  ·rw [dc_t (.inr (.inl h1))]
   have g1:=beq1 h1
   clear h0 h1
   go_enter Tryz.func100,Tryz.ntmps100
   go_wp2_with fail
   go_ret
   exact ⟨rfl,rfl⟩
  ·have g1:=bne h1
   by_cases h2:k=12
   ·rw [dc_t (.inr (.inr h2))]
    have g2:=beq1 h2
    clear h0 h1 h2
    go_enter Tryz.func100,Tryz.ntmps100
    go_wp2_with fail
    go_ret
    exact ⟨rfl,rfl⟩
   ·have g2:=bne h2
    rw [dc_f (by omega)]
    clear h0 h1 h2
    go_enter Tryz.func100,Tryz.ntmps100
    go_wp2_with fail
    go_ret
    exact ⟨rfl,rfl⟩
theorem im_loop (k:Int) (w:World):Calls Tryz.prog 101 #[.int .i64 k] w fun e w'=>e = .returned (.bool (dc (k=6∨k=7∨k=8)))∧w'=w:=by
 by_cases h0:k=6
 ·rw [dc_t (.inl h0)]
  have g0:=beq1 h0
  clear h0
  go_enter Tryz.func101,Tryz.ntmps101
  go_wp2_with fail
  go_ret
  exact ⟨rfl,rfl⟩
 ·have g0:=bne h0
  by_cases h1:k=7
  ·rw [dc_t (.inr (.inl h1))]
   have g1:=beq1 h1
   clear h0 h1
   go_enter Tryz.func101,Tryz.ntmps101
   go_wp2_with fail
   go_ret
   exact ⟨rfl,rfl⟩
  ·have g1:=bne h1
   by_cases h2:k=8
   ·rw [dc_t (.inr (.inr h2))]
    have g2:=beq1 h2
    clear h0 h1 h2
    go_enter Tryz.func101,Tryz.ntmps101
    go_wp2_with fail
    go_ret
    exact ⟨rfl,rfl⟩
   ·have g2:=bne h2
    rw [dc_f (by omega)]
    clear h0 h1 h2
    go_enter Tryz.func101,Tryz.ntmps101
    go_wp2_with fail
    go_ret
    exact ⟨rfl,rfl⟩
def Dcl (a:Nv) (p:Nat) (R:Nat→Int) (x:Int):Prop:=(a.k=2∨a.k=7∨a.k=8∨a.k=12)∧∃ j,j < p∧R j=x
theorem sp_declares (a : Nv) (pr : Option Addr) (p cr : Nat) (vk : Value) (hvk : ∃ pk q ck, vk = .slice pk q ck) {R : Nat → Int} (x : Int) (w : World) (hr : RowB 0 w (.slice pr p cr) p (fun i => .int .i64 (R i))) (hp : p ≤ 1048576) :
  Calls Tryz.prog 77 #[ndv a (.slice pr p cr) vk,.int .i64 x] w fun e w'=>e = .returned (.bool (dc (Dcl a p R x)))∧Kb 0 w w':=by
 obtain ⟨pk,q,ck,rfl⟩:=hvk
 have HP:∀ o,Calls Tryz.prog 76 #[.slice pr p cr,.int .i64 x] (w.alloc o) fun e w'=>∃ r:Int,e = .returned (.int .i64 r)∧Fb (fun j=>¬ R j=x) p r∧w'=w.alloc o:=fun o=>sp_place x (w.alloc o) ((hr.keep (kb_alloc _ _ _)).row) hp
 obtain ⟨z,hz⟩:∃ z,z=dc (Dcl a p R x):=⟨_,rfl⟩
 have HZ:Hid (z=dc (Dcl a p R x)):=hz
 rw [← hz]
 unfold Dcl at HZ
 unfold ndv
 clear hz hr hp
 by_cases h0:a.k=2
 ·have HK:Hid (a.k=2∨a.k=7∨a.k=8∨a.k=12):=Or.inl h0
  have g0:(a.k != 2)=false:=by simp [h0]
  have f0:=beq1 h0
  clear h0
  generalize a.k=kk at *
  go_enter Tryz.func77,Tryz.ntmps77
  go_wp2_with fail
  refine (HP _).mono ?_
  rintro e w1 ⟨r,rfl,hR,rfl⟩
  rcases hR with ⟨rfl,hn⟩ | ⟨j,rfl,j1,j2,j3⟩
  ·have hX:z=false:=(uh HZ).trans (dc_f (fun g=>by obtain ⟨_,j,hj,e⟩:=g;exact hn j hj e))
   subst hX
   clear hn HZ HK HP
   go_wp2_with fail
   go_ret
   exact ⟨rfl,kb_alloc _ _ _⟩
  ·have hX:z=true:=(uh HZ).trans (dc_t ⟨HK,j,j1,Classical.not_not.1 j2⟩)
   subst hX
   have gj:(0:Int)≤(j:Int):=by omega
   clear j1 j2 j3 HZ HK HP
   go_wp2_with fail
   go_ret
   exact ⟨by first | rfl | simp [*],kb_alloc _ _ _⟩
 ·have g0:(a.k != 2)=true:=by simp [h0]
  have f0:=bne h0
  by_cases h1:a.k=7
  ·have HK:Hid (a.k=2∨a.k=7∨a.k=8∨a.k=12):=Or.inr (Or.inl h1)
   have g1:(a.k != 7)=false:=by simp [h1]
   have f1:=beq1 h1
   clear h0 h1
   generalize a.k=kk at *
   go_enter Tryz.func77,Tryz.ntmps77
   go_wp2_with fail
   refine (HP _).mono ?_
   rintro e w1 ⟨r,rfl,hR,rfl⟩
   rcases hR with ⟨rfl,hn⟩ | ⟨j,rfl,j1,j2,j3⟩
   ·have hX:z=false:=(uh HZ).trans (dc_f (fun g=>by obtain ⟨_,j,hj,e⟩:=g;exact hn j hj e))
    subst hX
    clear hn HZ HK HP
    go_wp2_with fail
    go_ret
    exact ⟨rfl,kb_alloc _ _ _⟩
   ·have hX:z=true:=(uh HZ).trans (dc_t ⟨HK,j,j1,Classical.not_not.1 j2⟩)
    subst hX
    have gj:(0:Int)≤(j:Int):=by omega
    clear j1 j2 j3 HZ HK HP
    go_wp2_with fail
    go_ret
    exact ⟨by first | rfl | simp [*],kb_alloc _ _ _⟩
  ·have g1:(a.k != 7)=true:=by simp [h1]
   have f1:=bne h1
   by_cases h2:a.k=8
   ·have HK:Hid (a.k=2∨a.k=7∨a.k=8∨a.k=12):=Or.inr (Or.inr (Or.inl h2))
    have g2:(a.k != 8)=false:=by simp [h2]
    have f2:=beq1 h2
    clear h0 h1 h2
    generalize a.k=kk at *
    go_enter Tryz.func77,Tryz.ntmps77
    go_wp2_with fail
    refine (HP _).mono ?_
    rintro e w1 ⟨r,rfl,hR,rfl⟩
    rcases hR with ⟨rfl,hn⟩ | ⟨j,rfl,j1,j2,j3⟩
    ·have hX:z=false:=(uh HZ).trans (dc_f (fun g=>by obtain ⟨_,j,hj,e⟩:=g;exact hn j hj e))
     subst hX
     clear hn HZ HK HP
     go_wp2_with fail
     go_ret
     exact ⟨rfl,kb_alloc _ _ _⟩
    ·have hX:z=true:=(uh HZ).trans (dc_t ⟨HK,j,j1,Classical.not_not.1 j2⟩)
     subst hX
     have gj:(0:Int)≤(j:Int):=by omega
     clear j1 j2 j3 HZ HK HP
     go_wp2_with fail
     go_ret
     exact ⟨by first | rfl | simp [*],kb_alloc _ _ _⟩
   ·have g2:(a.k != 8)=true:=by simp [h2]
    have f2:=bne h2
    by_cases h3:a.k=12
    ·have HK:Hid (a.k=2∨a.k=7∨a.k=8∨a.k=12):=Or.inr (Or.inr (Or.inr h3))
     have g3:(a.k != 12)=false:=by simp [h3]
     have f3:=beq1 h3
     clear h0 h1 h2 h3
     generalize a.k=kk at *
     go_enter Tryz.func77,Tryz.ntmps77
     go_wp2_with fail
     refine (HP _).mono ?_
     rintro e w1 ⟨r,rfl,hR,rfl⟩
     rcases hR with ⟨rfl,hn⟩ | ⟨j,rfl,j1,j2,j3⟩
     ·have hX:z=false:=(uh HZ).trans (dc_f (fun g=>by obtain ⟨_,j,hj,e⟩:=g;exact hn j hj e))
      subst hX
      clear hn HZ HK HP
      go_wp2_with fail
      go_ret
      exact ⟨rfl,kb_alloc _ _ _⟩
     ·have hX:z=true:=(uh HZ).trans (dc_t ⟨HK,j,j1,Classical.not_not.1 j2⟩)
      subst hX
      have gj:(0:Int)≤(j:Int):=by omega
      clear j1 j2 j3 HZ HK HP
      go_wp2_with fail
      go_ret
      exact ⟨by first | rfl | simp [*],kb_alloc _ _ _⟩
    ·have g3:(a.k != 12)=true:=by simp [h3]
     have f3:=bne h3
     have hX:z=false:=(uh HZ).trans (dc_f (fun g=>by have:=g.1;omega))
     subst hX
     clear HZ HP h0 h1 h2 h3
     go_enter Tryz.func77,Tryz.ntmps77
     go_wp2_with fail
     go_ret
     exact ⟨rfl,kb_alloc _ _ _⟩
inductive Inl (N:Nat→Nd) (PA:Nat→Int):Nat→Prop
 | here {k m:Nat} (h:PA k=(m:Int)) (hl:(N m).a.k=6∨(N m).a.k=7∨(N m).a.k=8) (hk:(N m).K ((N m).q - 1)=(k:Int)):Inl N PA k
 | up {k m:Nat} (h:PA k=(m:Int)) (hi:Inl N PA m):Inl N PA k
theorem Inl.neg {N:Nat→Nd} {PA:Nat→Int} {k:Nat} (h:PA k < 0):¬ Inl N PA k:=by
 intro g
 cases g with
 | here h1 _ _=>omega
 | up h1 _=>omega
theorem Inl.iff {N:Nat→Nd} {PA:Nat→Int} {k m:Nat} (h:PA k=(m:Int)):Inl N PA k↔(((N m).a.k=6∨(N m).a.k=7∨(N m).a.k=8)∧(N m).K ((N m).q - 1)=(k:Int))∨Inl N PA m:=by
 constructor
 ·intro g
  cases g with
  | here h1 h2 h3 =>
   have e:m = _:=Int.ofNat_inj.1 (h.symm.trans h1)
   subst e;exact Or.inl ⟨h2,h3⟩
  | up h1 h2 =>
   have e:m = _:=Int.ofNat_inj.1 (h.symm.trans h1)
   subst e;exact Or.inr h2
 ·rintro (⟨h2,h3⟩ | h2)
  ·exact .here h h2 h3
  ·exact .up h h2
theorem sp_inloop {AN GP : Addr} {cnn cp : Nat} {d : Fd} {vv vu vd : Value} {PA : Nat → Int} (w : World) (hvv : ∃ a b c, vv = .slice a b c) (hvu : ∃ a b c, vu = .slice a b c) (hvd : ∃ a b c, vd = .slice a b c) (hra : ∀ i, i < d.n → NodeC 0 w (AN.add (i * 8)) (d.N i)) (hrp : ∀ k, k < d.n → w.cell? (GP.add k) = some (.int .i64 (PA k))) (hn : d.n ≤ 1048576) (hq : ∀ t, t < d.n → (d.N t).q ≤ 1048576)
    (hup:∀ k,k < d.n→0≤PA k→k < (PA k).toNat∧(PA k).toNat < d.n) (hlp:∀ m,m < d.n→((d.N m).a.k=6∨(d.N m).a.k=7∨(d.N m).a.k=8)→0 < (d.N m).q) (t:Nat) (ht:t < d.n) :
    Calls Tryz.prog 41 #[fnv d vv vu (.slice (some AN) d.n cnn),.agg #[.slice (some GP) d.n cp,vd],.int .i64 (t:Int)] w fun e w'=>e = .returned (.bool (dc (Inl d.N PA t)))∧Kb 0 w w':=by
  obtain ⟨v1,v2,v3,rfl⟩:=hvv
  obtain ⟨u1,u2,u3,rfl⟩:=hvu
  obtain ⟨e1,e2,e3,rfl⟩:=hvd
  unfold fnv
  have hnI:(d.n:Int)≤1048576:=by omega
  obtain ⟨R,hR⟩:∃ R,R=dc (Inl d.N PA t):=⟨_,rfl⟩
  rw [← hR]
  have HR:Hid (R=dc (Inl d.N PA t)):=hR
  obtain ⟨w2,hw2⟩:∃ w2,w2=((w.alloc (.cells #[.string d.x,.int .i64 d.l,.int .i64 d.m,.bool d.r,.slice v1 v2 v3,.slice u1 u2 u3,.slice (some AN) d.n cnn] 48)).alloc (.cells #[.slice (some GP) d.n cp,.slice e1 e2 e3] 75)):=⟨_,rfl⟩
  have k2:Kb 0 w w2:=by rw [hw2];exact kb_alloc2 _ _ _ _
  have b0:w2.cell? ⟨w.heap.size,6,none⟩=some (.slice (some AN) d.n cnn):=by
    rw [hw2];exact (kb_alloc 0 _ _).cell (cell_of (alloc_new _ _ _) rfl)
  have b1:w2.cell? ⟨w.heap.size+1,0,none⟩=some (.slice (some GP) d.n cp):=by
    have e:(w.alloc (.cells #[.string d.x,.int .i64 d.l,.int .i64 d.m,.bool d.r,.slice v1 v2 v3,.slice u1 u2 u3,.slice (some AN) d.n cnn] 48)).heap.size=w.heap.size+1:=World.size_alloc _ _
    rw [hw2,← e]
    exact cell_of (alloc_new _ _ _) rfl
  have HC:Hid (∀ W,Kb 0 w2 W→W.cell? ⟨w.heap.size,6,none⟩=some (.slice (some AN) d.n cnn)∧W.cell? ⟨w.heap.size+1,0,none⟩=some (.slice (some GP) d.n cp)∧(∀ k,k < d.n→W.cell? (GP.add k)=some (.int .i64 (PA k)))∧(∀ i,i < d.n→NodeC 0 W (AN.add (i*8)) (d.N i))∧Kb 0 w W):=(fun W k=>⟨k.cell b0,k.cell b1,fun j hj=>(k2.trans k).cell (hrp j hj),fun i hi=>(hra i hi).keep zq (k2.trans k),k2.trans k⟩:∀ W,_)
  have HB:Hid ((∀ t,t < d.n→(d.N t).q≤1048576)∧(∀ k,k < d.n→0≤PA k→k < (PA k).toNat∧(PA k).toNat < d.n)∧(∀ m,m < d.n→((d.N m).a.k=6∨(d.N m).a.k=7∨(d.N m).a.k=8)→0 < (d.N m).q)∧d.n≤1048576):=(⟨hq,hup,hlp,hn⟩:_∧_)
  have HW:Hid (w2=((w.alloc (.cells #[.string d.x,.int .i64 d.l,.int .i64 d.m,.bool d.r,.slice v1 v2 v3,.slice u1 u2 u3,.slice (some AN) d.n cnn] 48)).alloc (.cells #[.slice (some GP) d.n cp,.slice e1 e2 e3] 75))):=hw2
  have cp0:=(k2.cell (hrp t ht))
  rw [hw2] at cp0
  have htI:(t:Int) < (d.n:Int):=by omega
  have HT:Hid (t < d.n):=ht
  clear hra hrp hq hup hlp hn hw2 b0 b1 k2 hR ht
  go_enter Tryz.func41,Tryz.ntmps41
  go_wp2_with fail
  rw [← (uh HW)]
  clear HW cp0
  go_loopw [7,8] (fun s7 s8 wr=>∃ b:Nat,s7 = .int .i64 (b:Int)∧s8 = .int .i64 (PA b)∧b < d.n∧Hid (Kb 0 w2 wr∧(Inl d.N PA t↔Inl d.N PA b))) (fun s7 _ _=>d.n - (intOf s7).toNat)
  case atStart=>exact ⟨t,rfl,rfl,HT,(⟨Kb.refl _ _,Iff.rfl⟩:_∧_)⟩
  case round =>
    obtain ⟨b,rfl,rfl,hb,HX⟩:=hrel
    obtain ⟨kw,hiff⟩:=(uh HX)
    obtain ⟨c6,c0,hrp,hra,kww⟩:=(uh HC) wr kw
    obtain ⟨hq,hup,hlp,hn⟩:=(uh HB)
    rcases Int.lt_or_le (PA b) 0 with hv | hv
    · have hF : R = false := by
        rw [show R = _ from HR]
        exact dc_f (fun g=>Inl.neg hv (hiff.1 g))
      subst hF
      have hv':¬ 0≤PA b:=by omega
      have HKW:Hid (Kb 0 w wr):=kww
      clear HX hiff hrp hra hq hup hlp hn kww kw HR HC HB
      generalize PA b=pv at *
      go_wp2_with fail
      go_ret
      exact ⟨rfl,HKW⟩
    · obtain ⟨u1',u2'⟩:=hup b hb hv
      obtain ⟨m,hm⟩:=Int.eq_ofNat_of_zero_le hv
      rw [hm,Int.toNat_natCast] at u1' u2'
      have hmI:(m:Int) < (d.n:Int):=by omega
      have cm:=hrp m u2'
      obtain ⟨vr,vk,⟨d0,d1,d2,d3,d4,d5,d6,d7⟩,hvr,hvk⟩:=hra m u2'
      obtain ⟨pr,cr,rfl,-⟩:=hvr
      have hqm:=hq m u2'
      have hqI:((d.N m).q:Int)≤1048576:=by omega
      have hst:=hst0
      have hin:=Inl.iff (N:=d.N) hm
      rw [hm]
      obtain ⟨pk,ck,rfl,hvk2⟩:=hvk
      have HKW:Hid (Kb 0 w wr):=kww
      have HKW2:Hid (Kb 0 w2 wr):=kw
      have hge:(0:Int)≤(m:Int):=by omega
      have HM:Hid (m < d.n∧b < m∧(Inl d.N PA t↔(((d.N m).a.k=6∨(d.N m).a.k=7∨(d.N m).a.k=8)∧(d.N m).K ((d.N m).q - 1)=(b:Int))∨Inl d.N PA m)):=(⟨u2',u1',hiff.trans hin⟩:_∧_)
      have hlpm:=hlp m u2'
      clear HX hiff hrp hra hq hup hlp hn kww kw HC HB hin hm u1' u2' hb hqm
      have c0a:∀ o,(wr.alloc o).cell? ⟨w.heap.size+1,0,none⟩=some (.slice (some GP) d.n cp):=fun o=>(kb_alloc 0 _ o).cell c0
      have cma:∀ o,(wr.alloc o).cell? (GP.add m)=some (.int .i64 (PA m)):=fun o=>(kb_alloc 0 _ o).cell cm
      by_cases h0:(d.N m).a.k=6
      · have HK:Hid ((d.N m).a.k=6∨(d.N m).a.k=7∨(d.N m).a.k=8):=Or.inl h0
        have hpos:=hlpm HK
        have g0:=beq1 h0
        obtain ⟨ak,rfl,hca,-,hrk⟩:=hvk2 hpos
        have ckl:=hrk ((d.N m).q - 1) (by omega)
        have ckla:∀ o,(wr.alloc o).cell? (ak.add ((d.N m).q - 1))=some (.int .i64 ((d.N m).K ((d.N m).q - 1))):=fun o=>(kb_alloc 0 _ o).cell ckl
        have hqp:(0:Int) < ((d.N m).q:Int):=by omega
        have hq1:((d.N m).q:Int) - 1=(((d.N m).q - 1:Nat):Int):=by omega
        have hq2:(((d.N m).q:Int) - 1).toNat=(d.N m).q - 1:=by omega
        clear hrk hvk2 hlpm h0
        by_cases hl:(d.N m).K ((d.N m).q - 1)=(b:Int)
        · have hT:R=true:=(uh HR).trans (dc_t ((uh HM).2.2.2 (Or.inl ⟨HK,hl⟩)))
          subst hT
          have gl:=beq1 hl
          clear HM HK hl HR HKW2
          generalize (d.N m).K ((d.N m).q - 1)=lk at *
          generalize (d.N m).a.k=kk at *
          go_wp2_with fail
          go_ret
          exact ⟨rfl,(uh HKW).trans (kb_alloc _ _ _)⟩
        · have HJ:Hid (Inl d.N PA t↔Inl d.N PA m):=(uh HM).2.2.trans ⟨fun g=>g.elim (fun g=>absurd g.2 hl) id,Or.inr⟩
          have gl:=bne hl
          clear HK hl HR HKW
          generalize (d.N m).K ((d.N m).q - 1)=lk at ckl ckla gl
          generalize hkk:(d.N m).a.k=kk at *
          go_wp2_with fail
          go_roundw
          case rel=>exact ⟨m,rfl,rfl,HM.1,(⟨(uh HKW2).trans (kb_alloc _ _ _),HJ⟩:_∧_)⟩
          case measure=>have:=HM.2.1;have:=HM.1;simp [intOf];omega
      · have g0:=bne h0
        by_cases h1:(d.N m).a.k=7
        · have HK:Hid ((d.N m).a.k=6∨(d.N m).a.k=7∨(d.N m).a.k=8):=Or.inr (Or.inl h1)
          have hpos:=hlpm HK
          have g1:=beq1 h1
          obtain ⟨ak,rfl,hca,-,hrk⟩:=hvk2 hpos
          have ckl:=hrk ((d.N m).q - 1) (by omega)
          have ckla:∀ o,(wr.alloc o).cell? (ak.add ((d.N m).q - 1))=some (.int .i64 ((d.N m).K ((d.N m).q - 1))):=fun o=>(kb_alloc 0 _ o).cell ckl
          have hqp:(0:Int) < ((d.N m).q:Int):=by omega
          have hq1:((d.N m).q:Int) - 1=(((d.N m).q - 1:Nat):Int):=by omega
          have hq2:(((d.N m).q:Int) - 1).toNat=(d.N m).q - 1:=by omega
          clear hrk hvk2 hlpm h0 h1
          by_cases hl:(d.N m).K ((d.N m).q - 1)=(b:Int)
          · have hT:R=true:=(uh HR).trans (dc_t ((uh HM).2.2.2 (Or.inl ⟨HK,hl⟩)))
            subst hT
            have gl:=beq1 hl
            clear HM HK hl HR HKW2
            generalize (d.N m).K ((d.N m).q - 1)=lk at *
            generalize (d.N m).a.k=kk at *
            go_wp2_with fail
            go_ret
            exact ⟨rfl,(uh HKW).trans (kb_alloc _ _ _)⟩
          · have HJ:Hid (Inl d.N PA t↔Inl d.N PA m):=(uh HM).2.2.trans ⟨fun g=>g.elim (fun g=>absurd g.2 hl) id,Or.inr⟩
            have gl:=bne hl
            clear HK hl HR HKW
            generalize (d.N m).K ((d.N m).q - 1)=lk at ckl ckla gl
            generalize hkk:(d.N m).a.k=kk at *
            go_wp2_with fail
            go_roundw
            case rel=>exact ⟨m,rfl,rfl,HM.1,(⟨(uh HKW2).trans (kb_alloc _ _ _),HJ⟩:_∧_)⟩
            case measure=>have:=HM.2.1;have:=HM.1;simp [intOf];omega
        · have g1:=bne h1
          by_cases h2:(d.N m).a.k=8
          · have HK:Hid ((d.N m).a.k=6∨(d.N m).a.k=7∨(d.N m).a.k=8):=Or.inr (Or.inr h2)
            have hpos:=hlpm HK
            have g2:=beq1 h2
            obtain ⟨ak,rfl,hca,-,hrk⟩:=hvk2 hpos
            have ckl:=hrk ((d.N m).q - 1) (by omega)
            have ckla:∀ o,(wr.alloc o).cell? (ak.add ((d.N m).q - 1))=some (.int .i64 ((d.N m).K ((d.N m).q - 1))):=fun o=>(kb_alloc 0 _ o).cell ckl
            have hqp:(0:Int) < ((d.N m).q:Int):=by omega
            have hq1:((d.N m).q:Int) - 1=(((d.N m).q - 1:Nat):Int):=by omega
            have hq2:(((d.N m).q:Int) - 1).toNat=(d.N m).q - 1:=by omega
            clear hrk hvk2 hlpm h0 h1 h2
            by_cases hl:(d.N m).K ((d.N m).q - 1)=(b:Int)
            · have hT:R=true:=(uh HR).trans (dc_t ((uh HM).2.2.2 (Or.inl ⟨HK,hl⟩)))
              subst hT
              have gl:=beq1 hl
              clear HM HK hl HR HKW2
              generalize (d.N m).K ((d.N m).q - 1)=lk at *
              generalize (d.N m).a.k=kk at *
              go_wp2_with fail
              go_ret
              exact ⟨rfl,(uh HKW).trans (kb_alloc _ _ _)⟩
            · have HJ:Hid (Inl d.N PA t↔Inl d.N PA m):=(uh HM).2.2.trans ⟨fun g=>g.elim (fun g=>absurd g.2 hl) id,Or.inr⟩
              have gl:=bne hl
              clear HK hl HR HKW
              generalize (d.N m).K ((d.N m).q - 1)=lk at ckl ckla gl
              generalize hkk:(d.N m).a.k=kk at *
              go_wp2_with fail
              go_roundw
              case rel=>exact ⟨m,rfl,rfl,HM.1,(⟨(uh HKW2).trans (kb_alloc _ _ _),HJ⟩:_∧_)⟩
              case measure=>have:=HM.2.1;have:=HM.1;simp [intOf];omega
          · have g2:=bne h2
            have HJ:Hid (Inl d.N PA t↔Inl d.N PA m):=(uh HM).2.2.trans ⟨fun g=>g.elim (fun g=>absurd g.1 (by omega)) id,Or.inr⟩
            clear hvk2 hlpm HR HKW h0 h1 h2
            skip
            generalize hkk:(d.N m).a.k=kk at *
            go_wp2_with fail
            go_roundw
            case rel=>exact ⟨m,rfl,rfl,HM.1,(⟨(uh HKW2).trans (kb_alloc _ _ _),HJ⟩:_∧_)⟩
            case measure=>have:=HM.2.1;have:=HM.1;simp [intOf];omega
end Go.Proofs.YtfpidccjcemcjaaGreat.Fo
