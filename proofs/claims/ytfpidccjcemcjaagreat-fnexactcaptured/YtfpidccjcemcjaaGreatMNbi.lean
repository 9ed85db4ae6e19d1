import Derived.Test.YtfpidccjcemcjaaGreatMZsq
import Derived.Test.YtfpidccjcemcjaaGreatMNbe
import Derived.Deep.QuietTactic
import Derived.BigQuiet
set_option maxHeartbeats 8000000
namespace Go.Proofs.YtfpidccjcemcjaaGreat.Fo
open Go.ChangeShapes Go.WideShapes Go.ChangeAt Go.RowKit
set_option linter.unusedVariables false
set_option maxRecDepth 100000
theorem eq_fns {va vb : Value} {n : Nat} {F : Nat → Fd} (w : World) (ha : RowF 0 w va n F) (hb : RowF 0 w vb n F) (hn : n ≤ 1048576) (hF : ∀ i, i < n → (F i).p ≤ 1048576 ∧ (F i).u ≤ 1048576 ∧ (F i).n ≤ 1048576 ∧ ∀ j, j < (F i).n → ((F i).N j).p ≤ 1048576 ∧ ((F i).N j).q ≤ 1048576 ∧ ((F i).N j).a.g < 18446744073709551616) :
  Calls Tryz.prog 19 #[va,vb] w fun e w'=>e = .returned (.bool true)∧Kb 0 w w':=by
 obtain ⟨pa,ca,rfl,ha2⟩:=ha
 obtain ⟨pb,cb,rfl,hb2⟩:=hb
 have HA:Hid ((0 < n→∃ a:Addr,pa=some a∧n≤ca∧0≤a.block∧∀ i,i < n→FnC 0 w (a.add (i*7)) (F i))∧(0 < n→∃ a:Addr,pb=some a∧n≤cb∧0≤a.block∧∀ i,i < n→FnC 0 w (a.add (i*7)) (F i))∧(∀ i,i < n→(F i).p≤1048576∧(F i).u≤1048576∧(F i).n≤1048576∧∀ j,j < (F i).n→((F i).N j).p≤1048576∧((F i).N j).q≤1048576∧((F i).N j).a.g < 18446744073709551616)):=(⟨ha2,hb2,hF⟩:_∧_)
 have hnI:(n:Int)≤1048576:=by omega
 clear ha2 hb2 hn hF
 go_enter Tryz.func19,Tryz.ntmps19
 go_wp2_with fail
 go_loopw [5] (fun s5 wr=>∃ i:Nat,s5 = .int .i64 (i:Int)∧i≤n∧Hid (Kb 0 w wr)) (fun s5 _=>n - (intOf s5).toNat)
 case atStart=>exact ⟨0,rfl,Nat.zero_le _,Kb.refl _ _⟩
 case round =>
  obtain ⟨i,rfl,hin,HB⟩:=hrel
  rcases Nat.lt_or_ge i n with hi | hi
  ·have hA:=(uh HA)
   obtain ⟨qa,rfl,hca,-,hra⟩:=hA.1 (by omega)
   obtain ⟨qb,rfl,hcb,-,hrb⟩:=hA.2.1 (by omega)
   have hiI:(i:Int) < (n:Int):=by omega
   obtain ⟨vv,vu,vn,ca,h1,h2,h3⟩:=(hra i hi).keep zq HB
   obtain ⟨uv,uu,un,cb,h4,h5,h6⟩:=(hrb i hi).keep zq HB
   obtain ⟨y1,y2,y3,y4⟩:=hA.2.2 i hi
   have heq:∀ W',Kb 0 wr W'→Calls Tryz.prog 28 #[fnv (F i) vv vu vn,fnv (F i) uv uu un] W' fun e w'=>e = .returned (.bool true)∧Kb 0 W' w':=fun W' k=>eq_fn W' (fun W k2=>eq_strs' W (h1.keep (k.trans k2)) (h4.keep (k.trans k2)) y1) (fun W k2=>eq_ups W (h2.keep (k.trans k2)) (h5.keep (k.trans k2)) y2) (fun W k2=>eq_nodes W (h3.keep (k.trans k2)) (h6.keep (k.trans k2)) y3 y4)
   replace heq:∀ W',W'.heap=wr.heap→W'.os=wr.os→W'.output=wr.output→Calls Tryz.prog 28 #[fnv (F i) vv vu vn,fnv (F i) uv uu un] W' fun e w'=>e = .returned (.bool true)∧Kb 0 wr w':=fun W' h0 h1 h2=>by
    have kk:Kb 0 wr W':=⟨h1,h2,by rw [h0];exact Nat.le_refl _,fun k _ _=>by rw [h0]⟩
    refine (heq W' kk).mono ?_
    rintro e w' ⟨rfl,k⟩
    exact ⟨rfl,kk.trans k⟩
   obtain ⟨a0,a1,a2,a3,a4,a5,a6⟩:=ca
   obtain ⟨b0,b1,b2,b3,b4,b5,b6⟩:=cb
   clear hra hrb hA HA h1 h2 h3 h4 h5 h6 y1 y2 y3 y4
   generalize F i=G at *
   obtain ⟨xx,xl,xm,xr,gp,gV,gu,gU,gn,gN⟩:=G
   unfold fnv at heq
   dsimp only at a0 a1 a2 a3 b0 b1 b2 b3 heq
   have HKEEP:Hid (∀ (W':World),Kb 0 wr W'→W'.cell? (qa.add (i*7))=some (.string xx)∧W'.cell? ⟨(qa.add (i*7)).block,(qa.add (i*7)).off+1,none⟩=some (.int .i64 xl)∧W'.cell? ⟨(qa.add (i*7)).block,(qa.add (i*7)).off+2,none⟩=some (.int .i64 xm)∧W'.cell? ⟨(qa.add (i*7)).block,(qa.add (i*7)).off+3,none⟩=some (.bool xr)∧W'.cell? ⟨(qa.add (i*7)).block,(qa.add (i*7)).off+4,none⟩=some (vv)∧W'.cell? ⟨(qa.add (i*7)).block,(qa.add (i*7)).off+5,none⟩=some (vu)∧W'.cell? ⟨(qa.add (i*7)).block,(qa.add (i*7)).off+6,none⟩=some (vn)∧W'.cell? (qb.add (i*7))=some (.string xx)∧W'.cell? ⟨(qb.add (i*7)).block,(qb.add (i*7)).off+1,none⟩=some (.int .i64 xl)∧W'.cell? ⟨(qb.add (i*7)).block,(qb.add (i*7)).off+2,none⟩=some (.int .i64 xm)∧W'.cell? ⟨(qb.add (i*7)).block,(qb.add (i*7)).off+3,none⟩=some (.bool xr)∧W'.cell? ⟨(qb.add (i*7)).block,(qb.add (i*7)).off+4,none⟩=some (uv)∧W'.cell? ⟨(qb.add (i*7)).block,(qb.add (i*7)).off+5,none⟩=some (uu)∧W'.cell? ⟨(qb.add (i*7)).block,(qb.add (i*7)).off+6,none⟩=some (un)):=by
    show ∀ (W':World),_
    intro W' k
    exact ⟨k.cell a0,k.cell a1,k.cell a2,k.cell a3,k.cell a4,k.cell a5,k.cell a6,k.cell b0,k.cell b1,k.cell b2,k.cell b3,k.cell b4,k.cell b5,k.cell b6⟩
   have HEQ:Hid (∀ W',W'.heap=wr.heap→W'.os=wr.os→W'.output=wr.output→Calls Tryz.prog 28 #[.agg #[.string xx,.int .i64 xl,.int .i64 xm,.bool xr,vv,vu,vn],.agg #[.string xx,.int .i64 xl,.int .i64 xm,.bool xr,uv,uu,un]] W' fun e w'=>e = .returned (.bool true)∧Kb 0 wr w'):=heq
   clear hin heq
   go_wp2_with fail
   go_region_held_law (fun W'=>W'.cell? (qa.add (i*7))=some (.string xx)∧W'.cell? ⟨(qa.add (i*7)).block,(qa.add (i*7)).off+1,none⟩=some (.int .i64 xl)∧W'.cell? ⟨(qa.add (i*7)).block,(qa.add (i*7)).off+2,none⟩=some (.int .i64 xm)∧W'.cell? ⟨(qa.add (i*7)).block,(qa.add (i*7)).off+3,none⟩=some (.bool xr)∧W'.cell? ⟨(qa.add (i*7)).block,(qa.add (i*7)).off+4,none⟩=some (vv)∧W'.cell? ⟨(qa.add (i*7)).block,(qa.add (i*7)).off+5,none⟩=some (vu)∧W'.cell? ⟨(qa.add (i*7)).block,(qa.add (i*7)).off+6,none⟩=some (vn)∧W'.cell? (qb.add (i*7))=some (.string xx)∧W'.cell? ⟨(qb.add (i*7)).block,(qb.add (i*7)).off+1,none⟩=some (.int .i64 xl)∧W'.cell? ⟨(qb.add (i*7)).block,(qb.add (i*7)).off+2,none⟩=some (.int .i64 xm)∧W'.cell? ⟨(qb.add (i*7)).block,(qb.add (i*7)).off+3,none⟩=some (.bool xr)∧W'.cell? ⟨(qb.add (i*7)).block,(qb.add (i*7)).off+4,none⟩=some (uv)∧W'.cell? ⟨(qb.add (i*7)).block,(qb.add (i*7)).off+5,none⟩=some (uu)∧W'.cell? ⟨(qb.add (i*7)).block,(qb.add (i*7)).off+6,none⟩=some (un)) (first | exact ⟨a0,a1,a2,a3,a4,a5,a6,b0,b1,b2,b3,b4,b5,b6⟩ | exact (uh HKEEP) _ k5)
    ((go_at_call 28;refine ((uh HEQ) _ (by exact rfl) (by exact rfl) (by exact rfl)).mono ?_;rintro e w5 ⟨rfl,k5⟩))
   all_goals
    have HB5:Hid (Kb 0 w w5):=(uh HB).trans k5
    clear HB HKEEP HEQ k5 a0 a1 a2 a3 a4 a5 a6 b0 b1 b2 b3 b4 b5 b6
    go_wp2_with fail
    go_roundw
    case rel=>exact ⟨i+1,by go_num,by omega,HB5⟩
    case measure=>simp [intOf];omega
  ·obtain rfl:i=n:=by omega
   clear HA
   go_wp2_with fail
   go_ret
   exact ⟨rfl,HB⟩
noncomputable def dc (p:Prop):Bool:=@decide p (Classical.propDecidable p)
theorem dc_t {p:Prop} (h:p):dc p=true:=@decide_eq_true p (Classical.propDecidable p) h
theorem dc_f {p:Prop} (h:¬ p):dc p=false:=@decide_eq_false p (Classical.propDecidable p) h
theorem dc_iff {p q:Prop} (h:p↔q):dc p=dc q:=by rw [show p=q from propext h]
theorem bne {k m:Int} (h:k ≠ m):(k == m)=false:=beq_eq_false_iff_ne.2 h
theorem beq1 {k m:Int} (h:k=m):(k == m)=true:=beq_iff_eq.2 h
theorem str0 {x:ByteArray} (h:x=⟨#[]⟩):x.toList = []:=by rw [Lib.toList_data,h]
theorem str1 {x:ByteArray} (h:¬ x=⟨#[]⟩):¬ x.toList = []:=by
 rw [Lib.toList_data]
 intro e
 exact h (by apply ByteArray.ext;exact Array.toList_inj.1 (by simpa using e))
def St (k:Int):Prop:=1≤k∧k≤14
def Ex (k:Int):Prop:=20≤k∧k≤38
theorem sp_stat (k:Int) (w:World):Calls Tryz.prog 53 #[.int .i64 k] w fun e w'=>e = .returned (.bool (dc (St k)))∧w'=w:=by
 unfold St
 rcases Int.lt_or_le k 1 with h | h
 ·rw [dc_f (by omega)]
  have h':¬ 1≤k:=by omega
  go_enter Tryz.func53,Tryz.ntmps53
  go_wp2_with fail
  go_ret
  exact ⟨rfl,rfl⟩
 ·rcases Int.lt_or_le 14 k with g | g
  ·rw [dc_f (by omega)]
   have g':¬ k≤14:=by omega
   go_enter Tryz.func53,Tryz.ntmps53
   go_wp2_with fail
   go_ret
   exact ⟨rfl,rfl⟩
  ·rw [dc_t ⟨h,g⟩]
   go_enter Tryz.func53,Tryz.ntmps53
   go_wp2_with fail
   go_ret
   exact ⟨rfl,rfl⟩
theorem sp_expr (k:Int) (w:World):Calls Tryz.prog 92 #[.int .i64 k] w fun e w'=>e = .returned (.bool (dc (Ex k)))∧w'=w:=by
 unfold Ex
 rcases Int.lt_or_le k 20 with h | h
 ·rw [dc_f (by omega)]
  have h':¬ 20≤k:=by omega
  go_enter Tryz.func92,Tryz.ntmps92
  go_wp2_with fail
  go_ret
  exact ⟨rfl,rfl⟩
 ·rcases Int.lt_or_le 38 k with g | g
  ·rw [dc_f (by omega)]
   have g':¬ k≤38:=by omega
   go_enter Tryz.func92,Tryz.ntmps92
   go_wp2_with fail
   go_ret
   exact ⟨rfl,rfl⟩
  ·rw [dc_t ⟨h,g⟩]
   go_enter Tryz.func92,Tryz.ntmps92
   go_wp2_with fail
   go_ret
   exact ⟨rfl,rfl⟩
theorem sp_target (k:Int) (w:World):Calls Tryz.prog 74 #[.int .i64 k] w fun e w'=>e = .returned (.bool (dc (k=26∨k=27∨k=33)))∧w'=w:=by
 by_cases h0:k=26
 ·rw [dc_t (.inl h0)]
  have g0:=beq1 h0
  clear h0
  go_enter Tryz.func74,Tryz.ntmps74
  go_wp2_with fail
  go_ret
  exact ⟨rfl,rfl⟩
 ·have g0:=bne h0
  by_cases h1:k=27
  ·rw [dc_t (.inr (.inl h1))]
   have g1:=beq1 h1
   clear h0 h1
   go_enter Tryz.func74,Tryz.ntmps74
   go_wp2_with fail
   go_ret
   exact ⟨rfl,rfl⟩
  ·have g1:=bne h1
   by_cases h2:k=33
   ·rw [dc_t (.inr (.inr h2))]
    have g2:=beq1 h2
    clear h0 h1 h2
    go_enter Tryz.func74,Tryz.ntmps74
    go_wp2_with fail
    go_ret
    exact ⟨rfl,rfl⟩
   ·have g2:=bne h2
    rw [dc_f (by omega)]
    clear h0 h1 h2
    go_enter Tryz.func74,Tryz.ntmps74
    go_wp2_with fail
    go_ret
    exact ⟨rfl,rfl⟩
theorem sp_many (k:Int) (w:World):Calls Tryz.prog 75 #[.int .i64 k] w fun e w'=>e = .returned (.bool (dc (k=34∨k=37)))∧w'=w:=by
 by_cases h0:k=34
 ·rw [dc_t (.inl h0)]
  have g0:=beq1 h0
  clear h0
  go_enter Tryz.func75,Tryz.ntmps75
  go_wp2_with fail
  go_ret
  exact ⟨rfl,rfl⟩
 ·have g0:=bne h0
  by_cases h1:k=37
  ·rw [dc_t (.inr h1)]
   have g1:=beq1 h1
   clear h0 h1
   go_enter Tryz.func75,Tryz.ntmps75
   go_wp2_with fail
   go_ret
   exact ⟨rfl,rfl⟩
  ·have g1:=bne h1
   rw [dc_f (by omega)]
   clear h0 h1
   go_enter Tryz.func75,Tryz.ntmps75
   go_wp2_with fail
   go_ret
   exact ⟨rfl,rfl⟩
def Br (o m g x:Bool) (a:Nv) (p:Nat) (r:Int):Prop:=(o=true∨a.o=0)∧(m=true∨a.m=0)∧(g=true∨fz a.g)∧(x=true∨a.x=⟨#[]⟩)∧(p:Int)=r
theorem sp_bare_z (a : Nv) (hga : a.g < 18446744073709551616) (pr : Option Addr) (p cr : Nat) (pk : Option Addr) (q ck : Nat) (r : Int) (hr : -1 ≤ r ∧ r ≤ 1048576) (hp : p ≤ 1048576) (w : World) :
  Calls Tryz.prog 72 #[ndv a (.slice pr p cr) (.slice pk q ck),.bool false,.bool false,.bool false,.bool false,.int .i64 r] w fun e w'=>e = .returned (.bool (dc (Br false false false false a p r)))∧Kb 0 w w':=by
 unfold ndv Br
 have hpI:(p:Int)≤1048576:=by omega
 obtain ⟨k,l,o,m,g,x⟩:=a
 have hfc:=f_cases g hga
 clear hga
 dsimp only
 by_cases ho:o=0
 ·have go:=beq1 ho
  by_cases hm:m=0
  ·have gm:=beq1 hm
   rcases hfc with ⟨hg,_,_,gg⟩ | ⟨hg,_,_,gg⟩ | ⟨hg,_,_,gg | gg⟩
   ·skip
    rw [dc_f (by simp [*])]
    clear hr hp hpI ho hm hg
    go_enter Tryz.func72,Tryz.ntmps72
    go_wp2_with fail
    go_ret
    exact ⟨by first | rfl | (simp only [*];rfl),kb_alloc _ _ _⟩
   ·skip
    by_cases hx:x=⟨#[]⟩
    ·have gx:=str0 hx
     by_cases hp2:(p:Int)=r
     ·have gp:=beq1 hp2
      rw [dc_t (by simp [*])]
      clear hr hp hpI ho hm hg hx hp2
      go_enter Tryz.func72,Tryz.ntmps72
      go_wp2_with fail
      go_ret
      exact ⟨by first | rfl | (simp only [*];rfl),kb_alloc _ _ _⟩
     ·have gp:=bne hp2
      rw [dc_f (by simp [*])]
      clear hr hp hpI ho hm hg hx hp2
      go_enter Tryz.func72,Tryz.ntmps72
      go_wp2_with fail
      go_ret
      exact ⟨by first | rfl | (simp only [*];rfl),kb_alloc _ _ _⟩
    ·have gx:=str1 hx
     rw [dc_f (by simp [*])]
     clear hr hp hpI ho hm hg hx
     go_enter Tryz.func72,Tryz.ntmps72
     go_wp2_with fail
     go_ret
     exact ⟨by first | rfl | (simp only [*];rfl),kb_alloc _ _ _⟩
   ·skip
    rw [dc_f (by simp [*])]
    clear hr hp hpI ho hm hg
    go_enter Tryz.func72,Tryz.ntmps72
    go_wp2_with fail
    go_ret
    exact ⟨by first | rfl | (simp only [*];rfl),kb_alloc _ _ _⟩
   ·skip
    rw [dc_f (by simp [*])]
    clear hr hp hpI ho hm hg
    go_enter Tryz.func72,Tryz.ntmps72
    go_wp2_with fail
    go_ret
    exact ⟨by first | rfl | (simp only [*];rfl),kb_alloc _ _ _⟩
  ·have gm:=bne hm
   rw [dc_f (by simp [*])]
   clear hr hp hpI ho hm
   go_enter Tryz.func72,Tryz.ntmps72
   go_wp2_with fail
   go_ret
   exact ⟨by first | rfl | (simp only [*];rfl),kb_alloc _ _ _⟩
 ·have go:=bne ho
  rw [dc_f (by simp [*])]
  clear hr hp hpI ho
  go_enter Tryz.func72,Tryz.ntmps72
  go_wp2_with fail
  go_ret
  exact ⟨by first | rfl | (simp only [*];rfl),kb_alloc _ _ _⟩
theorem sp_bare_o (a : Nv) (hga : a.g < 18446744073709551616) (pr : Option Addr) (p cr : Nat) (pk : Option Addr) (q ck : Nat) (r : Int) (hr : -1 ≤ r ∧ r ≤ 1048576) (hp : p ≤ 1048576) (w : World) :
  Calls Tryz.prog 72 #[ndv a (.slice pr p cr) (.slice pk q ck),.bool true,.bool false,.bool false,.bool false,.int .i64 r] w fun e w'=>e = .returned (.bool (dc (Br true false false false a p r)))∧Kb 0 w w':=by
 unfold ndv Br
 have hpI:(p:Int)≤1048576:=by omega
 obtain ⟨k,l,o,m,g,x⟩:=a
 have hfc:=f_cases g hga
 clear hga
 dsimp only
 by_cases hm:m=0
 ·have gm:=beq1 hm
  rcases hfc with ⟨hg,_,_,gg⟩ | ⟨hg,_,_,gg⟩ | ⟨hg,_,_,gg | gg⟩
  ·skip
   rw [dc_f (by simp [*])]
   clear hr hp hpI hm hg
   go_enter Tryz.func72,Tryz.ntmps72
   go_wp2_with fail
   go_ret
   exact ⟨by first | rfl | (simp only [*];rfl),kb_alloc _ _ _⟩
  ·skip
   by_cases hx:x=⟨#[]⟩
   ·have gx:=str0 hx
    by_cases hp2:(p:Int)=r
    ·have gp:=beq1 hp2
     rw [dc_t (by simp [*])]
     clear hr hp hpI hm hg hx hp2
     go_enter Tryz.func72,Tryz.ntmps72
     go_wp2_with fail
     go_ret
     exact ⟨by first | rfl | (simp only [*];rfl),kb_alloc _ _ _⟩
    ·have gp:=bne hp2
     rw [dc_f (by simp [*])]
     clear hr hp hpI hm hg hx hp2
     go_enter Tryz.func72,Tryz.ntmps72
     go_wp2_with fail
     go_ret
     exact ⟨by first | rfl | (simp only [*];rfl),kb_alloc _ _ _⟩
   ·have gx:=str1 hx
    rw [dc_f (by simp [*])]
    clear hr hp hpI hm hg hx
    go_enter Tryz.func72,Tryz.ntmps72
    go_wp2_with fail
    go_ret
    exact ⟨by first | rfl | (simp only [*];rfl),kb_alloc _ _ _⟩
  ·skip
   rw [dc_f (by simp [*])]
   clear hr hp hpI hm hg
   go_enter Tryz.func72,Tryz.ntmps72
   go_wp2_with fail
   go_ret
   exact ⟨by first | rfl | (simp only [*];rfl),kb_alloc _ _ _⟩
  ·skip
   rw [dc_f (by simp [*])]
   clear hr hp hpI hm hg
   go_enter Tryz.func72,Tryz.ntmps72
   go_wp2_with fail
   go_ret
   exact ⟨by first | rfl | (simp only [*];rfl),kb_alloc _ _ _⟩
 ·have gm:=bne hm
  rw [dc_f (by simp [*])]
  clear hr hp hpI hm
  go_enter Tryz.func72,Tryz.ntmps72
  go_wp2_with fail
  go_ret
  exact ⟨by first | rfl | (simp only [*];rfl),kb_alloc _ _ _⟩
theorem sp_bare_m (a : Nv) (hga : a.g < 18446744073709551616) (pr : Option Addr) (p cr : Nat) (pk : Option Addr) (q ck : Nat) (r : Int) (hr : -1 ≤ r ∧ r ≤ 1048576) (hp : p ≤ 1048576) (w : World) :
  Calls Tryz.prog 72 #[ndv a (.slice pr p cr) (.slice pk q ck),.bool false,.bool true,.bool false,.bool false,.int .i64 r] w fun e w'=>e = .returned (.bool (dc (Br false true false false a p r)))∧Kb 0 w w':=by
 unfold ndv Br
 have hpI:(p:Int)≤1048576:=by omega
 obtain ⟨k,l,o,m,g,x⟩:=a
 have hfc:=f_cases g hga
 clear hga
 dsimp only
 by_cases ho:o=0
 ·have go:=beq1 ho
  rcases hfc with ⟨hg,_,_,gg⟩ | ⟨hg,_,_,gg⟩ | ⟨hg,_,_,gg | gg⟩
  ·skip
   rw [dc_f (by simp [*])]
   clear hr hp hpI ho hg
   go_enter Tryz.func72,Tryz.ntmps72
   go_wp2_with fail
   go_ret
   exact ⟨by first | rfl | (simp only [*];rfl),kb_alloc _ _ _⟩
  ·skip
   by_cases hx:x=⟨#[]⟩
   ·have gx:=str0 hx
    by_cases hp2:(p:Int)=r
    ·have gp:=beq1 hp2
     rw [dc_t (by simp [*])]
     clear hr hp hpI ho hg hx hp2
     go_enter Tryz.func72,Tryz.ntmps72
     go_wp2_with fail
     go_ret
     exact ⟨by first | rfl | (simp only [*];rfl),kb_alloc _ _ _⟩
    ·have gp:=bne hp2
     rw [dc_f (by simp [*])]
     clear hr hp hpI ho hg hx hp2
     go_enter Tryz.func72,Tryz.ntmps72
     go_wp2_with fail
     go_ret
     exact ⟨by first | rfl | (simp only [*];rfl),kb_alloc _ _ _⟩
   ·have gx:=str1 hx
    rw [dc_f (by simp [*])]
    clear hr hp hpI ho hg hx
    go_enter Tryz.func72,Tryz.ntmps72
    go_wp2_with fail
    go_ret
    exact ⟨by first | rfl | (simp only [*];rfl),kb_alloc _ _ _⟩
  ·skip
   rw [dc_f (by simp [*])]
   clear hr hp hpI ho hg
   go_enter Tryz.func72,Tryz.ntmps72
   go_wp2_with fail
   go_ret
   exact ⟨by first | rfl | (simp only [*];rfl),kb_alloc _ _ _⟩
  ·skip
   rw [dc_f (by simp [*])]
   clear hr hp hpI ho hg
   go_enter Tryz.func72,Tryz.ntmps72
   go_wp2_with fail
   go_ret
   exact ⟨by first | rfl | (simp only [*];rfl),kb_alloc _ _ _⟩
 ·have go:=bne ho
  rw [dc_f (by simp [*])]
  clear hr hp hpI ho
  go_enter Tryz.func72,Tryz.ntmps72
  go_wp2_with fail
  go_ret
  exact ⟨by first | rfl | (simp only [*];rfl),kb_alloc _ _ _⟩
theorem sp_bare_g (a : Nv) (hga : a.g < 18446744073709551616) (pr : Option Addr) (p cr : Nat) (pk : Option Addr) (q ck : Nat) (r : Int) (hr : -1 ≤ r ∧ r ≤ 1048576) (hp : p ≤ 1048576) (w : World) :
  Calls Tryz.prog 72 #[ndv a (.slice pr p cr) (.slice pk q ck),.bool false,.bool false,.bool true,.bool false,.int .i64 r] w fun e w'=>e = .returned (.bool (dc (Br false false true false a p r)))∧Kb 0 w w':=by
 unfold ndv Br
 have hpI:(p:Int)≤1048576:=by omega
 obtain ⟨k,l,o,m,g,x⟩:=a
 have hfc:=f_cases g hga
 clear hga
 dsimp only
 by_cases ho:o=0
 ·have go:=beq1 ho
  by_cases hm:m=0
  ·have gm:=beq1 hm
   by_cases hx:x=⟨#[]⟩
   ·have gx:=str0 hx
    by_cases hp2:(p:Int)=r
    ·have gp:=beq1 hp2
     rw [dc_t (by simp [*])]
     clear hr hp hpI hfc ho hm hx hp2
     go_enter Tryz.func72,Tryz.ntmps72
     go_wp2_with fail
     go_ret
     exact ⟨by first | rfl | (simp only [*];rfl),kb_alloc _ _ _⟩
    ·have gp:=bne hp2
     rw [dc_f (by simp [*])]
     clear hr hp hpI hfc ho hm hx hp2
     go_enter Tryz.func72,Tryz.ntmps72
     go_wp2_with fail
     go_ret
     exact ⟨by first | rfl | (simp only [*];rfl),kb_alloc _ _ _⟩
   ·have gx:=str1 hx
    rw [dc_f (by simp [*])]
    clear hr hp hpI hfc ho hm hx
    go_enter Tryz.func72,Tryz.ntmps72
    go_wp2_with fail
    go_ret
    exact ⟨by first | rfl | (simp only [*];rfl),kb_alloc _ _ _⟩
  ·have gm:=bne hm
   rw [dc_f (by simp [*])]
   clear hr hp hpI hfc ho hm
   go_enter Tryz.func72,Tryz.ntmps72
   go_wp2_with fail
   go_ret
   exact ⟨by first | rfl | (simp only [*];rfl),kb_alloc _ _ _⟩
 ·have go:=bne ho
  rw [dc_f (by simp [*])]
  clear hr hp hpI hfc ho
  go_enter Tryz.func72,Tryz.ntmps72
  go_wp2_with fail
  go_ret
  exact ⟨by first | rfl | (simp only [*];rfl),kb_alloc _ _ _⟩
theorem sp_bare_x (a : Nv) (hga : a.g < 18446744073709551616) (pr : Option Addr) (p cr : Nat) (pk : Option Addr) (q ck : Nat) (r : Int) (hr : -1 ≤ r ∧ r ≤ 1048576) (hp : p ≤ 1048576) (w : World) :
  Calls Tryz.prog 72 #[ndv a (.slice pr p cr) (.slice pk q ck),.bool false,.bool false,.bool false,.bool true,.int .i64 r] w fun e w'=>e = .returned (.bool (dc (Br false false false true a p r)))∧Kb 0 w w':=by
 unfold ndv Br
 have hpI:(p:Int)≤1048576:=by omega
 obtain ⟨k,l,o,m,g,x⟩:=a
 have hfc:=f_cases g hga
 clear hga
 dsimp only
 by_cases ho:o=0
 ·have go:=beq1 ho
  by_cases hm:m=0
  ·have gm:=beq1 hm
   rcases hfc with ⟨hg,_,_,gg⟩ | ⟨hg,_,_,gg⟩ | ⟨hg,_,_,gg | gg⟩
   ·skip
    rw [dc_f (by simp [*])]
    clear hr hp hpI ho hm hg
    go_enter Tryz.func72,Tryz.ntmps72
    go_wp2_with fail
    go_ret
    exact ⟨by first | rfl | (simp only [*];rfl),kb_alloc _ _ _⟩
   ·skip
    by_cases hp2:(p:Int)=r
    ·have gp:=beq1 hp2
     rw [dc_t (by simp [*])]
     clear hr hp hpI ho hm hg hp2
     go_enter Tryz.func72,Tryz.ntmps72
     go_wp2_with fail
     go_ret
     exact ⟨by first | rfl | (simp only [*];rfl),kb_alloc _ _ _⟩
    ·have gp:=bne hp2
     rw [dc_f (by simp [*])]
     clear hr hp hpI ho hm hg hp2
     go_enter Tryz.func72,Tryz.ntmps72
     go_wp2_with fail
     go_ret
     exact ⟨by first | rfl | (simp only [*];rfl),kb_alloc _ _ _⟩
   ·skip
    rw [dc_f (by simp [*])]
    clear hr hp hpI ho hm hg
    go_enter Tryz.func72,Tryz.ntmps72
    go_wp2_with fail
    go_ret
    exact ⟨by first | rfl | (simp only [*];rfl),kb_alloc _ _ _⟩
   ·skip
    rw [dc_f (by simp [*])]
    clear hr hp hpI ho hm hg
    go_enter Tryz.func72,Tryz.ntmps72
    go_wp2_with fail
    go_ret
    exact ⟨by first | rfl | (simp only [*];rfl),kb_alloc _ _ _⟩
  ·have gm:=bne hm
   rw [dc_f (by simp [*])]
   clear hr hp hpI ho hm
   go_enter Tryz.func72,Tryz.ntmps72
   go_wp2_with fail
   go_ret
   exact ⟨by first | rfl | (simp only [*];rfl),kb_alloc _ _ _⟩
 ·have go:=bne ho
  rw [dc_f (by simp [*])]
  clear hr hp hpI ho
  go_enter Tryz.func72,Tryz.ntmps72
  go_wp2_with fail
  go_ret
  exact ⟨by first | rfl | (simp only [*];rfl),kb_alloc _ _ _⟩
structure Rw where
 l1:Int
 l2:Int
 o1:Int
 o2:Int
 m1:Int
 m2:Int
 r1:Int
 r2:Int
 k1:Int
 k2:Int
 f:Bool
 x:Bool
def rwv (r:Rw):Value:=.agg #[.int .i64 r.l1,.int .i64 r.l2,.int .i64 r.o1,.int .i64 r.o2,.int .i64 r.m1,.int .i64 r.m2,.int .i64 r.r1,.int .i64 r.r2,.int .i64 r.k1,.int .i64 r.k2,.bool r.f,.bool r.x]
def rwk (k:Int) (q:Nat):Rw :=
 if k=1 then ⟨1,100000,0,0,0,0,0,0,0,200,false,false⟩ else
 if k=2 then ⟨1,100000,0,0,0,0,1,9223372036854775807,0,200,false,false⟩ else
 if k=3 then ⟨1,100000,0,0,1,(q:Int) - 1,0,0,2,200,false,false⟩ else
 if k=4 then ⟨1,100000,0,0,0,0,0,0,1,1,false,false⟩ else
 if k=5 then ⟨1,100000,0,0,0,0,0,0,2,3,false,false⟩ else
 if k=6 then ⟨1,100000,0,0,0,0,0,0,2,2,false,false⟩ else
 if k=7 then ⟨1,100000,0,0,0,0,1,1,4,4,false,false⟩ else
 if k=8 then ⟨1,100000,0,0,0,0,1,4,2,2,false,false⟩ else
 if k=9 then ⟨1,100000,0,0,0,0,0,0,0,0,false,false⟩ else
 if k=10 then ⟨1,100000,0,0,0,0,0,0,0,0,false,false⟩ else
 if k=11 then ⟨1,100000,0,0,0,0,0,0,0,200,false,false⟩ else
 if k=12 then ⟨1,100000,0,0,0,0,2,2,2,2,false,false⟩ else
 if k=13 then ⟨1,100000,0,0,0,0,0,0,1,1,false,false⟩ else
 if k=14 then ⟨1,100000,0,0,0,0,0,0,1,1,false,false⟩ else
 if k=20 then ⟨0,0,0,0,0,0,0,0,0,0,false,false⟩ else
 if k=21 then ⟨0,0,0,0,0,0,0,0,0,0,false,false⟩ else
 if k=22 then ⟨0,0,0,0,0,0,0,0,0,0,false,false⟩ else
 if k=23 then ⟨0,0,0,0,(-9223372036854775808),9223372036854775807,0,0,0,0,false,false⟩ else
 if k=24 then ⟨0,0,0,0,0,0,0,0,0,0,true,false⟩ else
 if k=25 then ⟨0,0,0,0,0,0,0,0,0,0,false,true⟩ else
 if k=26 then ⟨0,0,0,0,0,0,1,1,0,0,false,false⟩ else
 if k=27 then ⟨0,0,0,0,0,0,1,1,0,0,false,false⟩ else
 if k=28 then ⟨0,0,0,0,0,14,0,0,0,0,false,false⟩ else
 if k=29 then ⟨0,0,0,0,0,0,0,0,2,2,false,false⟩ else
 if k=30 then ⟨0,0,0,0,0,0,0,0,2,2,false,false⟩ else
 if k=31 then ⟨0,0,19,22,0,0,0,0,1,1,false,false⟩ else
 if k=32 then ⟨0,0,1,18,0,0,0,0,2,2,false,false⟩ else
 if k=33 then ⟨0,0,0,0,0,0,0,0,2,2,false,false⟩ else
 if k=34 then ⟨0,0,0,0,0,0,0,0,1,200,false,false⟩ else
 if k=35 then ⟨0,0,0,1,0,0,0,0,0,200,false,false⟩ else
 if k=36 then ⟨0,0,0,0,0,0,1,1,0,0,false,false⟩ else
 if k=37 then ⟨0,0,0,0,0,0,0,0,0,0,false,false⟩ else
 ⟨0,0,0,0,0,0,0,0,1,1,false,false⟩
theorem own_1 (a : Nv) (vr : Value) (hv : ∃ pr p cr, vr = .slice pr p cr) (pk : Option Addr) (q ck : Nat) (hq : (q : Int) ≤ 1048576) (w : World) :
  Calls Tryz.prog 127 #[.agg #[.int .i64 1,.int .i64 a.l,.int .i64 a.o,.int .i64 a.m,.float .f64 a.g,.string a.x,vr,.slice pk q ck]] w fun e w'=>e = .returned (rwv (rwk 1 q))∧Kb 0 w w':=by
 rw [show rwk 1 q=⟨1,100000,0,0,0,0,0,0,0,200,false,false⟩ from rfl]
 unfold rwv
 obtain ⟨pr,p,cr,rfl⟩:=hv
 go_enter Tryz.func127,Tryz.ntmps127
 go_wp2_with go_in
 refine bodyPost_ret (by simp [results,Tryz.results127,go_sem];rfl) rfl ?_
 exact ⟨rfl,by repeat (first | exact Kb.refl _ _ | apply Kb.alloc)⟩
theorem own_2 (a : Nv) (vr : Value) (hv : ∃ pr p cr, vr = .slice pr p cr) (pk : Option Addr) (q ck : Nat) (hq : (q : Int) ≤ 1048576) (w : World) :
  Calls Tryz.prog 127 #[.agg #[.int .i64 2,.int .i64 a.l,.int .i64 a.o,.int .i64 a.m,.float .f64 a.g,.string a.x,vr,.slice pk q ck]] w fun e w'=>e = .returned (rwv (rwk 2 q))∧Kb 0 w w':=by
 rw [show rwk 2 q=⟨1,100000,0,0,0,0,1,9223372036854775807,0,200,false,false⟩ from rfl]
 unfold rwv
 obtain ⟨pr,p,cr,rfl⟩:=hv
 go_enter Tryz.func127,Tryz.ntmps127
 go_wp2_with go_in
 refine bodyPost_ret (by simp [results,Tryz.results127,go_sem];rfl) rfl ?_
 exact ⟨rfl,by repeat (first | exact Kb.refl _ _ | apply Kb.alloc)⟩
theorem own_3 (a : Nv) (vr : Value) (hv : ∃ pr p cr, vr = .slice pr p cr) (pk : Option Addr) (q ck : Nat) (hq : (q : Int) ≤ 1048576) (w : World) :
  Calls Tryz.prog 127 #[.agg #[.int .i64 3,.int .i64 a.l,.int .i64 a.o,.int .i64 a.m,.float .f64 a.g,.string a.x,vr,.slice pk q ck]] w fun e w'=>e = .returned (rwv (rwk 3 q))∧Kb 0 w w':=by
 rw [show rwk 3 q=⟨1,100000,0,0,1,(q:Int) - 1,0,0,2,200,false,false⟩ from rfl]
 unfold rwv
 obtain ⟨pr,p,cr,rfl⟩:=hv
 go_enter Tryz.func127,Tryz.ntmps127
 go_wp2_with go_in
 refine bodyPost_ret (by simp [results,Tryz.results127,go_sem];rfl) rfl ?_
 exact ⟨rfl,by repeat (first | exact Kb.refl _ _ | apply Kb.alloc)⟩
theorem own_4 (a : Nv) (vr : Value) (hv : ∃ pr p cr, vr = .slice pr p cr) (pk : Option Addr) (q ck : Nat) (hq : (q : Int) ≤ 1048576) (w : World) :
  Calls Tryz.prog 127 #[.agg #[.int .i64 4,.int .i64 a.l,.int .i64 a.o,.int .i64 a.m,.float .f64 a.g,.string a.x,vr,.slice pk q ck]] w fun e w'=>e = .returned (rwv (rwk 4 q))∧Kb 0 w w':=by
 rw [show rwk 4 q=⟨1,100000,0,0,0,0,0,0,1,1,false,false⟩ from rfl]
 unfold rwv
 obtain ⟨pr,p,cr,rfl⟩:=hv
 go_enter Tryz.func127,Tryz.ntmps127
 go_wp2_with go_in
 refine bodyPost_ret (by simp [results,Tryz.results127,go_sem];rfl) rfl ?_
 exact ⟨rfl,by repeat (first | exact Kb.refl _ _ | apply Kb.alloc)⟩
theorem own_5 (a : Nv) (vr : Value) (hv : ∃ pr p cr, vr = .slice pr p cr) (pk : Option Addr) (q ck : Nat) (hq : (q : Int) ≤ 1048576) (w : World) :
  Calls Tryz.prog 127 #[.agg #[.int .i64 5,.int .i64 a.l,.int .i64 a.o,.int .i64 a.m,.float .f64 a.g,.string a.x,vr,.slice pk q ck]] w fun e w'=>e = .returned (rwv (rwk 5 q))∧Kb 0 w w':=by
 rw [show rwk 5 q=⟨1,100000,0,0,0,0,0,0,2,3,false,false⟩ from rfl]
 unfold rwv
 obtain ⟨pr,p,cr,rfl⟩:=hv
 go_enter Tryz.func127,Tryz.ntmps127
 go_wp2_with go_in
 refine bodyPost_ret (by simp [results,Tryz.results127,go_sem];rfl) rfl ?_
 exact ⟨rfl,by repeat (first | exact Kb.refl _ _ | apply Kb.alloc)⟩
theorem own_6 (a : Nv) (vr : Value) (hv : ∃ pr p cr, vr = .slice pr p cr) (pk : Option Addr) (q ck : Nat) (hq : (q : Int) ≤ 1048576) (w : World) :
  Calls Tryz.prog 127 #[.agg #[.int .i64 6,.int .i64 a.l,.int .i64 a.o,.int .i64 a.m,.float .f64 a.g,.string a.x,vr,.slice pk q ck]] w fun e w'=>e = .returned (rwv (rwk 6 q))∧Kb 0 w w':=by
 rw [show rwk 6 q=⟨1,100000,0,0,0,0,0,0,2,2,false,false⟩ from rfl]
 unfold rwv
 obtain ⟨pr,p,cr,rfl⟩:=hv
 go_enter Tryz.func127,Tryz.ntmps127
 go_wp2_with go_in
 refine bodyPost_ret (by simp [results,Tryz.results127,go_sem];rfl) rfl ?_
 exact ⟨rfl,by repeat (first | exact Kb.refl _ _ | apply Kb.alloc)⟩
theorem own_7 (a : Nv) (vr : Value) (hv : ∃ pr p cr, vr = .slice pr p cr) (pk : Option Addr) (q ck : Nat) (hq : (q : Int) ≤ 1048576) (w : World) :
  Calls Tryz.prog 127 #[.agg #[.int .i64 7,.int .i64 a.l,.int .i64 a.o,.int .i64 a.m,.float .f64 a.g,.string a.x,vr,.slice pk q ck]] w fun e w'=>e = .returned (rwv (rwk 7 q))∧Kb 0 w w':=by
 rw [show rwk 7 q=⟨1,100000,0,0,0,0,1,1,4,4,false,false⟩ from rfl]
 unfold rwv
 obtain ⟨pr,p,cr,rfl⟩:=hv
 go_enter Tryz.func127,Tryz.ntmps127
 go_wp2_with go_in
 refine bodyPost_ret (by simp [results,Tryz.results127,go_sem];rfl) rfl ?_
 exact ⟨rfl,by repeat (first | exact Kb.refl _ _ | apply Kb.alloc)⟩
theorem own_8 (a : Nv) (vr : Value) (hv : ∃ pr p cr, vr = .slice pr p cr) (pk : Option Addr) (q ck : Nat) (hq : (q : Int) ≤ 1048576) (w : World) :
  Calls Tryz.prog 127 #[.agg #[.int .i64 8,.int .i64 a.l,.int .i64 a.o,.int .i64 a.m,.float .f64 a.g,.string a.x,vr,.slice pk q ck]] w fun e w'=>e = .returned (rwv (rwk 8 q))∧Kb 0 w w':=by
 rw [show rwk 8 q=⟨1,100000,0,0,0,0,1,4,2,2,false,false⟩ from rfl]
 unfold rwv
 obtain ⟨pr,p,cr,rfl⟩:=hv
 go_enter Tryz.func127,Tryz.ntmps127
 go_wp2_with go_in
 refine bodyPost_ret (by simp [results,Tryz.results127,go_sem];rfl) rfl ?_
 exact ⟨rfl,by repeat (first | exact Kb.refl _ _ | apply Kb.alloc)⟩
theorem own_9 (a : Nv) (vr : Value) (hv : ∃ pr p cr, vr = .slice pr p cr) (pk : Option Addr) (q ck : Nat) (hq : (q : Int) ≤ 1048576) (w : World) :
  Calls Tryz.prog 127 #[.agg #[.int .i64 9,.int .i64 a.l,.int .i64 a.o,.int .i64 a.m,.float .f64 a.g,.string a.x,vr,.slice pk q ck]] w fun e w'=>e = .returned (rwv (rwk 9 q))∧Kb 0 w w':=by
 rw [show rwk 9 q=⟨1,100000,0,0,0,0,0,0,0,0,false,false⟩ from rfl]
 unfold rwv
 obtain ⟨pr,p,cr,rfl⟩:=hv
 go_enter Tryz.func127,Tryz.ntmps127
 go_wp2_with go_in
 refine bodyPost_ret (by simp [results,Tryz.results127,go_sem];rfl) rfl ?_
 exact ⟨rfl,by repeat (first | exact Kb.refl _ _ | apply Kb.alloc)⟩
theorem own_10 (a : Nv) (vr : Value) (hv : ∃ pr p cr, vr = .slice pr p cr) (pk : Option Addr) (q ck : Nat) (hq : (q : Int) ≤ 1048576) (w : World) :
  Calls Tryz.prog 127 #[.agg #[.int .i64 10,.int .i64 a.l,.int .i64 a.o,.int .i64 a.m,.float .f64 a.g,.string a.x,vr,.slice pk q ck]] w fun e w'=>e = .returned (rwv (rwk 10 q))∧Kb 0 w w':=by
 rw [show rwk 10 q=⟨1,100000,0,0,0,0,0,0,0,0,false,false⟩ from rfl]
 unfold rwv
 obtain ⟨pr,p,cr,rfl⟩:=hv
 go_enter Tryz.func127,Tryz.ntmps127
 go_wp2_with go_in
 refine bodyPost_ret (by simp [results,Tryz.results127,go_sem];rfl) rfl ?_
 exact ⟨rfl,by repeat (first | exact Kb.refl _ _ | apply Kb.alloc)⟩
theorem own_11 (a : Nv) (vr : Value) (hv : ∃ pr p cr, vr = .slice pr p cr) (pk : Option Addr) (q ck : Nat) (hq : (q : Int) ≤ 1048576) (w : World) :
  Calls Tryz.prog 127 #[.agg #[.int .i64 11,.int .i64 a.l,.int .i64 a.o,.int .i64 a.m,.float .f64 a.g,.string a.x,vr,.slice pk q ck]] w fun e w'=>e = .returned (rwv (rwk 11 q))∧Kb 0 w w':=by
 rw [show rwk 11 q=⟨1,100000,0,0,0,0,0,0,0,200,false,false⟩ from rfl]
 unfold rwv
 obtain ⟨pr,p,cr,rfl⟩:=hv
 go_enter Tryz.func127,Tryz.ntmps127
 go_wp2_with go_in
 refine bodyPost_ret (by simp [results,Tryz.results127,go_sem];rfl) rfl ?_
 exact ⟨rfl,by repeat (first | exact Kb.refl _ _ | apply Kb.alloc)⟩
theorem own_12 (a : Nv) (vr : Value) (hv : ∃ pr p cr, vr = .slice pr p cr) (pk : Option Addr) (q ck : Nat) (hq : (q : Int) ≤ 1048576) (w : World) :
  Calls Tryz.prog 127 #[.agg #[.int .i64 12,.int .i64 a.l,.int .i64 a.o,.int .i64 a.m,.float .f64 a.g,.string a.x,vr,.slice pk q ck]] w fun e w'=>e = .returned (rwv (rwk 12 q))∧Kb 0 w w':=by
 rw [show rwk 12 q=⟨1,100000,0,0,0,0,2,2,2,2,false,false⟩ from rfl]
 unfold rwv
 obtain ⟨pr,p,cr,rfl⟩:=hv
 go_enter Tryz.func127,Tryz.ntmps127
 go_wp2_with go_in
 refine bodyPost_ret (by simp [results,Tryz.results127,go_sem];rfl) rfl ?_
 exact ⟨rfl,by repeat (first | exact Kb.refl _ _ | apply Kb.alloc)⟩
theorem own_13 (a : Nv) (vr : Value) (hv : ∃ pr p cr, vr = .slice pr p cr) (pk : Option Addr) (q ck : Nat) (hq : (q : Int) ≤ 1048576) (w : World) :
  Calls Tryz.prog 127 #[.agg #[.int .i64 13,.int .i64 a.l,.int .i64 a.o,.int .i64 a.m,.float .f64 a.g,.string a.x,vr,.slice pk q ck]] w fun e w'=>e = .returned (rwv (rwk 13 q))∧Kb 0 w w':=by
 rw [show rwk 13 q=⟨1,100000,0,0,0,0,0,0,1,1,false,false⟩ from rfl]
 unfold rwv
 obtain ⟨pr,p,cr,rfl⟩:=hv
 go_enter Tryz.func127,Tryz.ntmps127
 go_wp2_with go_in
 refine bodyPost_ret (by simp [results,Tryz.results127,go_sem];rfl) rfl ?_
 exact ⟨rfl,by repeat (first | exact Kb.refl _ _ | apply Kb.alloc)⟩
theorem own_14 (a : Nv) (vr : Value) (hv : ∃ pr p cr, vr = .slice pr p cr) (pk : Option Addr) (q ck : Nat) (hq : (q : Int) ≤ 1048576) (w : World) :
  Calls Tryz.prog 127 #[.agg #[.int .i64 14,.int .i64 a.l,.int .i64 a.o,.int .i64 a.m,.float .f64 a.g,.string a.x,vr,.slice pk q ck]] w fun e w'=>e = .returned (rwv (rwk 14 q))∧Kb 0 w w':=by
 rw [show rwk 14 q=⟨1,100000,0,0,0,0,0,0,1,1,false,false⟩ from rfl]
 unfold rwv
 obtain ⟨pr,p,cr,rfl⟩:=hv
 go_enter Tryz.func127,Tryz.ntmps127
 go_wp2_with go_in
 refine bodyPost_ret (by simp [results,Tryz.results127,go_sem];rfl) rfl ?_
 exact ⟨rfl,by repeat (first | exact Kb.refl _ _ | apply Kb.alloc)⟩
theorem xow_20 (a : Nv) (vr : Value) (hv : ∃ pr p cr, vr = .slice pr p cr) (pk : Option Addr) (q ck : Nat) (hq : (q : Int) ≤ 1048576) (w : World) :
  Calls Tryz.prog 132 #[.agg #[.int .i64 20,.int .i64 a.l,.int .i64 a.o,.int .i64 a.m,.float .f64 a.g,.string a.x,vr,.slice pk q ck]] w fun e w'=>e = .returned (rwv (rwk 20 q))∧Kb 0 w w':=by
 rw [show rwk 20 q=⟨0,0,0,0,0,0,0,0,0,0,false,false⟩ from rfl]
 unfold rwv
 obtain ⟨pr,p,cr,rfl⟩:=hv
 go_enter Tryz.func132,Tryz.ntmps132
 go_wp2_with go_in
 refine bodyPost_ret (by simp [results,Tryz.results132,go_sem];rfl) rfl ?_
 exact ⟨rfl,by repeat (first | exact Kb.refl _ _ | apply Kb.alloc)⟩
theorem xow_21 (a : Nv) (vr : Value) (hv : ∃ pr p cr, vr = .slice pr p cr) (pk : Option Addr) (q ck : Nat) (hq : (q : Int) ≤ 1048576) (w : World) :
  Calls Tryz.prog 132 #[.agg #[.int .i64 21,.int .i64 a.l,.int .i64 a.o,.int .i64 a.m,.float .f64 a.g,.string a.x,vr,.slice pk q ck]] w fun e w'=>e = .returned (rwv (rwk 21 q))∧Kb 0 w w':=by
 rw [show rwk 21 q=⟨0,0,0,0,0,0,0,0,0,0,false,false⟩ from rfl]
 unfold rwv
 obtain ⟨pr,p,cr,rfl⟩:=hv
 go_enter Tryz.func132,Tryz.ntmps132
 go_wp2_with go_in
 refine bodyPost_ret (by simp [results,Tryz.results132,go_sem];rfl) rfl ?_
 exact ⟨rfl,by repeat (first | exact Kb.refl _ _ | apply Kb.alloc)⟩
theorem xow_22 (a : Nv) (vr : Value) (hv : ∃ pr p cr, vr = .slice pr p cr) (pk : Option Addr) (q ck : Nat) (hq : (q : Int) ≤ 1048576) (w : World) :
  Calls Tryz.prog 132 #[.agg #[.int .i64 22,.int .i64 a.l,.int .i64 a.o,.int .i64 a.m,.float .f64 a.g,.string a.x,vr,.slice pk q ck]] w fun e w'=>e = .returned (rwv (rwk 22 q))∧Kb 0 w w':=by
 rw [show rwk 22 q=⟨0,0,0,0,0,0,0,0,0,0,false,false⟩ from rfl]
 unfold rwv
 obtain ⟨pr,p,cr,rfl⟩:=hv
 go_enter Tryz.func132,Tryz.ntmps132
 go_wp2_with go_in
 refine bodyPost_ret (by simp [results,Tryz.results132,go_sem];rfl) rfl ?_
 exact ⟨rfl,by repeat (first | exact Kb.refl _ _ | apply Kb.alloc)⟩
theorem xow_23 (a : Nv) (vr : Value) (hv : ∃ pr p cr, vr = .slice pr p cr) (pk : Option Addr) (q ck : Nat) (hq : (q : Int) ≤ 1048576) (w : World) :
  Calls Tryz.prog 132 #[.agg #[.int .i64 23,.int .i64 a.l,.int .i64 a.o,.int .i64 a.m,.float .f64 a.g,.string a.x,vr,.slice pk q ck]] w fun e w'=>e = .returned (rwv (rwk 23 q))∧Kb 0 w w':=by
 rw [show rwk 23 q=⟨0,0,0,0,(-9223372036854775808),9223372036854775807,0,0,0,0,false,false⟩ from rfl]
 unfold rwv
 obtain ⟨pr,p,cr,rfl⟩:=hv
 go_enter Tryz.func132,Tryz.ntmps132
 go_wp2_with go_in
 refine bodyPost_ret (by simp [results,Tryz.results132,go_sem];rfl) rfl ?_
 exact ⟨rfl,by repeat (first | exact Kb.refl _ _ | apply Kb.alloc)⟩
theorem xow_24 (a : Nv) (vr : Value) (hv : ∃ pr p cr, vr = .slice pr p cr) (pk : Option Addr) (q ck : Nat) (hq : (q : Int) ≤ 1048576) (w : World) :
  Calls Tryz.prog 132 #[.agg #[.int .i64 24,.int .i64 a.l,.int .i64 a.o,.int .i64 a.m,.float .f64 a.g,.string a.x,vr,.slice pk q ck]] w fun e w'=>e = .returned (rwv (rwk 24 q))∧Kb 0 w w':=by
 rw [show rwk 24 q=⟨0,0,0,0,0,0,0,0,0,0,true,false⟩ from rfl]
 unfold rwv
 obtain ⟨pr,p,cr,rfl⟩:=hv
 go_enter Tryz.func132,Tryz.ntmps132
 go_wp2_with go_in
 refine bodyPost_ret (by simp [results,Tryz.results132,go_sem];rfl) rfl ?_
 exact ⟨rfl,by repeat (first | exact Kb.refl _ _ | apply Kb.alloc)⟩
theorem xow_25 (a : Nv) (vr : Value) (hv : ∃ pr p cr, vr = .slice pr p cr) (pk : Option Addr) (q ck : Nat) (hq : (q : Int) ≤ 1048576) (w : World) :
  Calls Tryz.prog 132 #[.agg #[.int .i64 25,.int .i64 a.l,.int .i64 a.o,.int .i64 a.m,.float .f64 a.g,.string a.x,vr,.slice pk q ck]] w fun e w'=>e = .returned (rwv (rwk 25 q))∧Kb 0 w w':=by
 rw [show rwk 25 q=⟨0,0,0,0,0,0,0,0,0,0,false,true⟩ from rfl]
 unfold rwv
 obtain ⟨pr,p,cr,rfl⟩:=hv
 go_enter Tryz.func132,Tryz.ntmps132
 go_wp2_with go_in
 refine bodyPost_ret (by simp [results,Tryz.results132,go_sem];rfl) rfl ?_
 exact ⟨rfl,by repeat (first | exact Kb.refl _ _ | apply Kb.alloc)⟩
theorem xow_26 (a : Nv) (vr : Value) (hv : ∃ pr p cr, vr = .slice pr p cr) (pk : Option Addr) (q ck : Nat) (hq : (q : Int) ≤ 1048576) (w : World) :
  Calls Tryz.prog 132 #[.agg #[.int .i64 26,.int .i64 a.l,.int .i64 a.o,.int .i64 a.m,.float .f64 a.g,.string a.x,vr,.slice pk q ck]] w fun e w'=>e = .returned (rwv (rwk 26 q))∧Kb 0 w w':=by
 rw [show rwk 26 q=⟨0,0,0,0,0,0,1,1,0,0,false,false⟩ from rfl]
 unfold rwv
 obtain ⟨pr,p,cr,rfl⟩:=hv
 go_enter Tryz.func132,Tryz.ntmps132
 go_wp2_with go_in
 refine bodyPost_ret (by simp [results,Tryz.results132,go_sem];rfl) rfl ?_
 exact ⟨rfl,by repeat (first | exact Kb.refl _ _ | apply Kb.alloc)⟩
theorem xow_27 (a : Nv) (vr : Value) (hv : ∃ pr p cr, vr = .slice pr p cr) (pk : Option Addr) (q ck : Nat) (hq : (q : Int) ≤ 1048576) (w : World) :
  Calls Tryz.prog 132 #[.agg #[.int .i64 27,.int .i64 a.l,.int .i64 a.o,.int .i64 a.m,.float .f64 a.g,.string a.x,vr,.slice pk q ck]] w fun e w'=>e = .returned (rwv (rwk 27 q))∧Kb 0 w w':=by
 rw [show rwk 27 q=⟨0,0,0,0,0,0,1,1,0,0,false,false⟩ from rfl]
 unfold rwv
 obtain ⟨pr,p,cr,rfl⟩:=hv
 go_enter Tryz.func132,Tryz.ntmps132
 go_wp2_with go_in
 refine bodyPost_ret (by simp [results,Tryz.results132,go_sem];rfl) rfl ?_
 exact ⟨rfl,by repeat (first | exact Kb.refl _ _ | apply Kb.alloc)⟩
theorem xow_28 (a : Nv) (vr : Value) (hv : ∃ pr p cr, vr = .slice pr p cr) (pk : Option Addr) (q ck : Nat) (hq : (q : Int) ≤ 1048576) (w : World) :
  Calls Tryz.prog 132 #[.agg #[.int .i64 28,.int .i64 a.l,.int .i64 a.o,.int .i64 a.m,.float .f64 a.g,.string a.x,vr,.slice pk q ck]] w fun e w'=>e = .returned (rwv (rwk 28 q))∧Kb 0 w w':=by
 rw [show rwk 28 q=⟨0,0,0,0,0,14,0,0,0,0,false,false⟩ from rfl]
 unfold rwv
 obtain ⟨pr,p,cr,rfl⟩:=hv
 go_enter Tryz.func132,Tryz.ntmps132
 go_wp2_with go_in
 refine bodyPost_ret (by simp [results,Tryz.results132,go_sem];rfl) rfl ?_
 exact ⟨rfl,by repeat (first | exact Kb.refl _ _ | apply Kb.alloc)⟩
theorem xow_29 (a : Nv) (vr : Value) (hv : ∃ pr p cr, vr = .slice pr p cr) (pk : Option Addr) (q ck : Nat) (hq : (q : Int) ≤ 1048576) (w : World) :
  Calls Tryz.prog 132 #[.agg #[.int .i64 29,.int .i64 a.l,.int .i64 a.o,.int .i64 a.m,.float .f64 a.g,.string a.x,vr,.slice pk q ck]] w fun e w'=>e = .returned (rwv (rwk 29 q))∧Kb 0 w w':=by
 rw [show rwk 29 q=⟨0,0,0,0,0,0,0,0,2,2,false,false⟩ from rfl]
 unfold rwv
 obtain ⟨pr,p,cr,rfl⟩:=hv
 go_enter Tryz.func132,Tryz.ntmps132
 go_wp2_with go_in
 refine bodyPost_ret (by simp [results,Tryz.results132,go_sem];rfl) rfl ?_
 exact ⟨rfl,by repeat (first | exact Kb.refl _ _ | apply Kb.alloc)⟩
end Go.Proofs.YtfpidccjcemcjaaGreat.Fo
