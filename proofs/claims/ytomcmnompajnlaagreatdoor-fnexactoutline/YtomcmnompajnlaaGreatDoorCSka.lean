import Derived.Test.YtomcmnompajnlaaGreatDoorBBab
import Derived.Test.YtomcmnompajnlaaGreatDoorCBaf
import Derived.Deep.QuietTactic
import Derived.BigQuiet
set_option maxRecDepth 100000
set_option maxHeartbeats 8000000
namespace Go.Proofs.YtomcmnompajnlaaGreatDoor.Fo
open Go.ChangeShapes Go.WideShapes Go.ChangeAt Go.RowKit
set_option linter.unusedVariables false
theorem sp_stat (k:Int) (w:World):Calls Tryz.prog 66 #[.int .i64 k] w fun e w'=>e = .returned (.bool (dc (1≤k∧k≤16)))∧w'=w:=by
  rcases Int.lt_or_le k 1 with h | h
  · rw [dc_f (by omega)]
    have h':¬ 1≤k:=by omega
    go_enter Tryz.func66,Tryz.ntmps66
    go_wp2_with fail
    go_ret
    exact ⟨rfl,rfl⟩
  · rcases Int.lt_or_le 16 k with g | g
    · rw [dc_f (by omega)]
      have g':¬ k≤16:=by omega
      go_enter Tryz.func66,Tryz.ntmps66
      go_wp2_with fail
      go_ret
      exact ⟨rfl,rfl⟩
    · rw [dc_t ⟨h,g⟩]
      go_enter Tryz.func66,Tryz.ntmps66
      go_wp2_with fail
      go_ret
      exact ⟨rfl,rfl⟩
theorem sp_expr (k:Int) (w:World):Calls Tryz.prog 128 #[.int .i64 k] w fun e w'=>e = .returned (.bool (dc (20≤k∧k≤37)))∧w'=w:=by
  rcases Int.lt_or_le k 20 with h | h
  · rw [dc_f (by omega)]
    have h':¬ 20≤k:=by omega
    go_enter Tryz.func128,Tryz.ntmps128
    go_wp2_with fail
    go_ret
    exact ⟨rfl,rfl⟩
  · rcases Int.lt_or_le 37 k with g | g
    · rw [dc_f (by omega)]
      have g':¬ k≤37:=by omega
      go_enter Tryz.func128,Tryz.ntmps128
      go_wp2_with fail
      go_ret
      exact ⟨rfl,rfl⟩
    · rw [dc_t ⟨h,g⟩]
      go_enter Tryz.func128,Tryz.ntmps128
      go_wp2_with fail
      go_ret
      exact ⟨rfl,rfl⟩
theorem sp_target (k:Int) (w:World):Calls Tryz.prog 102 #[.int .i64 k] w fun e w'=>e = .returned (.bool (dc (k=26∨k=32∨k=33)))∧w'=w:=by
  by_cases h1:k=26
  · rw [dc_t (.inl h1)]
    have g1:=beq1 h1
    clear h1
    go_enter Tryz.func102,Tryz.ntmps102
    go_wp2_with fail
    go_ret
    exact ⟨rfl,rfl⟩
  · have g1:=bne h1
    by_cases h2:k=32
    · rw [dc_t (.inr (.inl h2))]
      have g2:=beq1 h2
      clear h1 h2
      go_enter Tryz.func102,Tryz.ntmps102
      go_wp2_with fail
      go_ret
      exact ⟨rfl,rfl⟩
    · have g2:=bne h2
      by_cases h3:k=33
      · rw [dc_t (.inr (.inr h3))]
        have g3:=beq1 h3
        clear h1 h2 h3
        go_enter Tryz.func102,Tryz.ntmps102
        go_wp2_with fail
        go_ret
        exact ⟨rfl,rfl⟩
      · have g3:=bne h3
        rw [dc_f (by omega)]
        clear h1 h2 h3
        go_enter Tryz.func102,Tryz.ntmps102
        go_wp2_with fail
        go_ret
        exact ⟨rfl,rfl⟩
theorem sp_bare (a : Fv) (pn : Option Addr) (p cn : Nat) (vk : Value) (hvk : ∃ pk q ck, vk = .slice pk q ck) (op num text names : Bool) (w : World) (hp : (p : Int) ≤ 1048576) :
    Calls Tryz.prog 99 #[fmv a (.slice pn p cn) vk,.bool op,.bool num,.bool text,.bool names] w fun e w'=>e = .returned (.bool (dc ((op=true∨a.o=0)∧(num=true∨a.m=0)∧(text=true∨a.x=⟨#[]⟩)∧(names=true∨p=0))))∧Below w.heap.size w w':=by
  obtain ⟨pk,q,ck,rfl⟩:=hvk
  unfold fmv
  obtain ⟨k,f,t,l,o,m,x⟩:=a
  dsimp only
  cases op <;> cases num <;> cases text <;> cases names
  · by_cases h0:o=0
    · have g0:=beq1 h0
      by_cases h1:m=0
      · have g1:=beq1 h1
        by_cases h2:x=⟨#[]⟩
        · have g2:=str0 h2
          by_cases h3:p=0
          · have g3:=nat0 h3
            rw [dc_t (by simp [*])]
            clear h0 h1 h2 h3
            go_enter Tryz.func99,Tryz.ntmps99
            go_wp2_with fail
            go_ret
            exact ⟨by first | rfl | (simp only [g3];rfl),bel1 _ _⟩
          · have g3:=nat1 h3
            rw [dc_f (by simp [*])]
            clear h0 h1 h2 h3
            go_enter Tryz.func99,Tryz.ntmps99
            go_wp2_with fail
            go_ret
            exact ⟨by first | rfl | (simp only [g3];rfl),bel1 _ _⟩
        · have g2:=str1 h2
          rw [dc_f (by simp [*])]
          clear h0 h1 h2
          go_enter Tryz.func99,Tryz.ntmps99
          go_wp2_with fail
          go_ret
          exact ⟨by first | rfl | (simp only [g3];rfl),bel1 _ _⟩
      · have g1:=bne h1
        rw [dc_f (by simp [*])]
        clear h0 h1
        go_enter Tryz.func99,Tryz.ntmps99
        go_wp2_with fail
        go_ret
        exact ⟨by first | rfl | (simp only [g3];rfl),bel1 _ _⟩
    · have g0:=bne h0
      rw [dc_f (by simp [*])]
      clear h0
      go_enter Tryz.func99,Tryz.ntmps99
      go_wp2_with fail
      go_ret
      exact ⟨by first | rfl | (simp only [g3];rfl),bel1 _ _⟩
  · by_cases h0:o=0
    · have g0:=beq1 h0
      by_cases h1:m=0
      · have g1:=beq1 h1
        by_cases h2:x=⟨#[]⟩
        · have g2:=str0 h2
          rw [dc_t (by simp [*])]
          clear h0 h1 h2
          go_enter Tryz.func99,Tryz.ntmps99
          go_wp2_with fail
          go_ret
          exact ⟨by first | rfl | (simp only [g3];rfl),bel1 _ _⟩
        · have g2:=str1 h2
          rw [dc_f (by simp [*])]
          clear h0 h1 h2
          go_enter Tryz.func99,Tryz.ntmps99
          go_wp2_with fail
          go_ret
          exact ⟨by first | rfl | (simp only [g3];rfl),bel1 _ _⟩
      · have g1:=bne h1
        rw [dc_f (by simp [*])]
        clear h0 h1
        go_enter Tryz.func99,Tryz.ntmps99
        go_wp2_with fail
        go_ret
        exact ⟨by first | rfl | (simp only [g3];rfl),bel1 _ _⟩
    · have g0:=bne h0
      rw [dc_f (by simp [*])]
      clear h0
      go_enter Tryz.func99,Tryz.ntmps99
      go_wp2_with fail
      go_ret
      exact ⟨by first | rfl | (simp only [g3];rfl),bel1 _ _⟩
  · by_cases h0:o=0
    · have g0:=beq1 h0
      by_cases h1:m=0
      · have g1:=beq1 h1
        by_cases h3:p=0
        · have g3:=nat0 h3
          rw [dc_t (by simp [*])]
          clear h0 h1 h3
          go_enter Tryz.func99,Tryz.ntmps99
          go_wp2_with fail
          go_ret
          exact ⟨by first | rfl | (simp only [g3];rfl),bel1 _ _⟩
        · have g3:=nat1 h3
          rw [dc_f (by simp [*])]
          clear h0 h1 h3
          go_enter Tryz.func99,Tryz.ntmps99
          go_wp2_with fail
          go_ret
          exact ⟨by first | rfl | (simp only [g3];rfl),bel1 _ _⟩
      · have g1:=bne h1
        rw [dc_f (by simp [*])]
        clear h0 h1
        go_enter Tryz.func99,Tryz.ntmps99
        go_wp2_with fail
        go_ret
        exact ⟨by first | rfl | (simp only [g3];rfl),bel1 _ _⟩
    · have g0:=bne h0
      rw [dc_f (by simp [*])]
      clear h0
      go_enter Tryz.func99,Tryz.ntmps99
      go_wp2_with fail
      go_ret
      exact ⟨by first | rfl | (simp only [g3];rfl),bel1 _ _⟩
  · by_cases h0:o=0
    · have g0:=beq1 h0
      by_cases h1:m=0
      · have g1:=beq1 h1
        rw [dc_t (by simp [*])]
        clear h0 h1
        go_enter Tryz.func99,Tryz.ntmps99
        go_wp2_with fail
        go_ret
        exact ⟨by first | rfl | (simp only [g3];rfl),bel1 _ _⟩
      · have g1:=bne h1
        rw [dc_f (by simp [*])]
        clear h0 h1
        go_enter Tryz.func99,Tryz.ntmps99
        go_wp2_with fail
        go_ret
        exact ⟨by first | rfl | (simp only [g3];rfl),bel1 _ _⟩
    · have g0:=bne h0
      rw [dc_f (by simp [*])]
      clear h0
      go_enter Tryz.func99,Tryz.ntmps99
      go_wp2_with fail
      go_ret
      exact ⟨by first | rfl | (simp only [g3];rfl),bel1 _ _⟩
  · by_cases h0:o=0
    · have g0:=beq1 h0
      by_cases h2:x=⟨#[]⟩
      · have g2:=str0 h2
        by_cases h3:p=0
        · have g3:=nat0 h3
          rw [dc_t (by simp [*])]
          clear h0 h2 h3
          go_enter Tryz.func99,Tryz.ntmps99
          go_wp2_with fail
          go_ret
          exact ⟨by first | rfl | (simp only [g3];rfl),bel1 _ _⟩
        · have g3:=nat1 h3
          rw [dc_f (by simp [*])]
          clear h0 h2 h3
          go_enter Tryz.func99,Tryz.ntmps99
          go_wp2_with fail
          go_ret
          exact ⟨by first | rfl | (simp only [g3];rfl),bel1 _ _⟩
      · have g2:=str1 h2
        rw [dc_f (by simp [*])]
        clear h0 h2
        go_enter Tryz.func99,Tryz.ntmps99
        go_wp2_with fail
        go_ret
        exact ⟨by first | rfl | (simp only [g3];rfl),bel1 _ _⟩
    · have g0:=bne h0
      rw [dc_f (by simp [*])]
      clear h0
      go_enter Tryz.func99,Tryz.ntmps99
      go_wp2_with fail
      go_ret
      exact ⟨by first | rfl | (simp only [g3];rfl),bel1 _ _⟩
  · by_cases h0:o=0
    · have g0:=beq1 h0
      by_cases h2:x=⟨#[]⟩
      · have g2:=str0 h2
        rw [dc_t (by simp [*])]
        clear h0 h2
        go_enter Tryz.func99,Tryz.ntmps99
        go_wp2_with fail
        go_ret
        exact ⟨by first | rfl | (simp only [g3];rfl),bel1 _ _⟩
      · have g2:=str1 h2
        rw [dc_f (by simp [*])]
        clear h0 h2
        go_enter Tryz.func99,Tryz.ntmps99
        go_wp2_with fail
        go_ret
        exact ⟨by first | rfl | (simp only [g3];rfl),bel1 _ _⟩
    · have g0:=bne h0
      rw [dc_f (by simp [*])]
      clear h0
      go_enter Tryz.func99,Tryz.ntmps99
      go_wp2_with fail
      go_ret
      exact ⟨by first | rfl | (simp only [g3];rfl),bel1 _ _⟩
  · by_cases h0:o=0
    · have g0:=beq1 h0
      by_cases h3:p=0
      · have g3:=nat0 h3
        rw [dc_t (by simp [*])]
        clear h0 h3
        go_enter Tryz.func99,Tryz.ntmps99
        go_wp2_with fail
        go_ret
        exact ⟨by first | rfl | (simp only [g3];rfl),bel1 _ _⟩
      · have g3:=nat1 h3
        rw [dc_f (by simp [*])]
        clear h0 h3
        go_enter Tryz.func99,Tryz.ntmps99
        go_wp2_with fail
        go_ret
        exact ⟨by first | rfl | (simp only [g3];rfl),bel1 _ _⟩
    · have g0:=bne h0
      rw [dc_f (by simp [*])]
      clear h0
      go_enter Tryz.func99,Tryz.ntmps99
      go_wp2_with fail
      go_ret
      exact ⟨by first | rfl | (simp only [g3];rfl),bel1 _ _⟩
  · by_cases h0:o=0
    · have g0:=beq1 h0
      rw [dc_t (by simp [*])]
      clear h0
      go_enter Tryz.func99,Tryz.ntmps99
      go_wp2_with fail
      go_ret
      exact ⟨by first | rfl | (simp only [g3];rfl),bel1 _ _⟩
    · have g0:=bne h0
      rw [dc_f (by simp [*])]
      clear h0
      go_enter Tryz.func99,Tryz.ntmps99
      go_wp2_with fail
      go_ret
      exact ⟨by first | rfl | (simp only [g3];rfl),bel1 _ _⟩
  · by_cases h1:m=0
    · have g1:=beq1 h1
      by_cases h2:x=⟨#[]⟩
      · have g2:=str0 h2
        by_cases h3:p=0
        · have g3:=nat0 h3
          rw [dc_t (by simp [*])]
          clear h1 h2 h3
          go_enter Tryz.func99,Tryz.ntmps99
          go_wp2_with fail
          go_ret
          exact ⟨by first | rfl | (simp only [g3];rfl),bel1 _ _⟩
        · have g3:=nat1 h3
          rw [dc_f (by simp [*])]
          clear h1 h2 h3
          go_enter Tryz.func99,Tryz.ntmps99
          go_wp2_with fail
          go_ret
          exact ⟨by first | rfl | (simp only [g3];rfl),bel1 _ _⟩
      · have g2:=str1 h2
        rw [dc_f (by simp [*])]
        clear h1 h2
        go_enter Tryz.func99,Tryz.ntmps99
        go_wp2_with fail
        go_ret
        exact ⟨by first | rfl | (simp only [g3];rfl),bel1 _ _⟩
    · have g1:=bne h1
      rw [dc_f (by simp [*])]
      clear h1
      go_enter Tryz.func99,Tryz.ntmps99
      go_wp2_with fail
      go_ret
      exact ⟨by first | rfl | (simp only [g3];rfl),bel1 _ _⟩
  · by_cases h1:m=0
    · have g1:=beq1 h1
      by_cases h2:x=⟨#[]⟩
      · have g2:=str0 h2
        rw [dc_t (by simp [*])]
        clear h1 h2
        go_enter Tryz.func99,Tryz.ntmps99
        go_wp2_with fail
        go_ret
        exact ⟨by first | rfl | (simp only [g3];rfl),bel1 _ _⟩
      · have g2:=str1 h2
        rw [dc_f (by simp [*])]
        clear h1 h2
        go_enter Tryz.func99,Tryz.ntmps99
        go_wp2_with fail
        go_ret
        exact ⟨by first | rfl | (simp only [g3];rfl),bel1 _ _⟩
    · have g1:=bne h1
      rw [dc_f (by simp [*])]
      clear h1
      go_enter Tryz.func99,Tryz.ntmps99
      go_wp2_with fail
      go_ret
      exact ⟨by first | rfl | (simp only [g3];rfl),bel1 _ _⟩
  · by_cases h1:m=0
    · have g1:=beq1 h1
      by_cases h3:p=0
      · have g3:=nat0 h3
        rw [dc_t (by simp [*])]
        clear h1 h3
        go_enter Tryz.func99,Tryz.ntmps99
        go_wp2_with fail
        go_ret
        exact ⟨by first | rfl | (simp only [g3];rfl),bel1 _ _⟩
      · have g3:=nat1 h3
        rw [dc_f (by simp [*])]
        clear h1 h3
        go_enter Tryz.func99,Tryz.ntmps99
        go_wp2_with fail
        go_ret
        exact ⟨by first | rfl | (simp only [g3];rfl),bel1 _ _⟩
    · have g1:=bne h1
      rw [dc_f (by simp [*])]
      clear h1
      go_enter Tryz.func99,Tryz.ntmps99
      go_wp2_with fail
      go_ret
      exact ⟨by first | rfl | (simp only [g3];rfl),bel1 _ _⟩
  · by_cases h1:m=0
    · have g1:=beq1 h1
      rw [dc_t (by simp [*])]
      clear h1
      go_enter Tryz.func99,Tryz.ntmps99
      go_wp2_with fail
      go_ret
      exact ⟨by first | rfl | (simp only [g3];rfl),bel1 _ _⟩
    · have g1:=bne h1
      rw [dc_f (by simp [*])]
      clear h1
      go_enter Tryz.func99,Tryz.ntmps99
      go_wp2_with fail
      go_ret
      exact ⟨by first | rfl | (simp only [g3];rfl),bel1 _ _⟩
  · by_cases h2:x=⟨#[]⟩
    · have g2:=str0 h2
      by_cases h3:p=0
      · have g3:=nat0 h3
        rw [dc_t (by simp [*])]
        clear h2 h3
        go_enter Tryz.func99,Tryz.ntmps99
        go_wp2_with fail
        go_ret
        exact ⟨by first | rfl | (simp only [g3];rfl),bel1 _ _⟩
      · have g3:=nat1 h3
        rw [dc_f (by simp [*])]
        clear h2 h3
        go_enter Tryz.func99,Tryz.ntmps99
        go_wp2_with fail
        go_ret
        exact ⟨by first | rfl | (simp only [g3];rfl),bel1 _ _⟩
    · have g2:=str1 h2
      rw [dc_f (by simp [*])]
      clear h2
      go_enter Tryz.func99,Tryz.ntmps99
      go_wp2_with fail
      go_ret
      exact ⟨by first | rfl | (simp only [g3];rfl),bel1 _ _⟩
  · by_cases h2:x=⟨#[]⟩
    · have g2:=str0 h2
      rw [dc_t (by simp [*])]
      clear h2
      go_enter Tryz.func99,Tryz.ntmps99
      go_wp2_with fail
      go_ret
      exact ⟨by first | rfl | (simp only [g3];rfl),bel1 _ _⟩
    · have g2:=str1 h2
      rw [dc_f (by simp [*])]
      clear h2
      go_enter Tryz.func99,Tryz.ntmps99
      go_wp2_with fail
      go_ret
      exact ⟨by first | rfl | (simp only [g3];rfl),bel1 _ _⟩
  · by_cases h3:p=0
    · have g3:=nat0 h3
      rw [dc_t (by simp [*])]
      clear h3
      go_enter Tryz.func99,Tryz.ntmps99
      go_wp2_with fail
      go_ret
      exact ⟨by first | rfl | (simp only [g3];rfl),bel1 _ _⟩
    · have g3:=nat1 h3
      rw [dc_f (by simp [*])]
      clear h3
      go_enter Tryz.func99,Tryz.ntmps99
      go_wp2_with fail
      go_ret
      exact ⟨by first | rfl | (simp only [g3];rfl),bel1 _ _⟩
  · rw [dc_t (by simp [*])]
    skip
    go_enter Tryz.func99,Tryz.ntmps99
    go_wp2_with fail
    go_ret
    exact ⟨by first | rfl | (simp only [g3];rfl),bel1 _ _⟩
theorem sp_named {nm : ByteArray → Prop} (HN : NmS nm) {a : Fv} {vn vk : Value} {p : Nat} {A : Nat → ByteArray} (w : World) (hr : RowV w vn p (fun i => .string (A i))) (hvk : ∃ pk q ck, vk = .slice pk q ck) (x y : Int) (hp : p ≤ 1048576) (hx : 0 ≤ x) (hy : y ≤ 1000) :
    Calls Tryz.prog 100 #[fmv a vn vk,.int .i64 x,.int .i64 y] w fun e w'=>e = .returned (.bool (dc (x≤(p:Int)∧(p:Int)≤y∧∀ j,j < p→nm (A j))))∧Below w.heap.size w w':=by
  obtain ⟨pk,q,ck,rfl⟩:=hvk
  obtain ⟨pa,ca,rfl,ha2⟩:=hr
  unfold fmv
  obtain ⟨k,f,t,l,o,m,tx⟩:=a
  dsimp only
  have hpI:(p:Int)≤1048576:=by omega
  rcases Int.lt_or_le (p:Int) x with h1 | h1
  · rw [dc_f (fun g=>by omega)]
    clear ha2
    go_enter Tryz.func100,Tryz.ntmps100
    go_wp2_with fail
    go_ret
    exact ⟨rfl,bel1 _ _⟩
  · have h1':¬ (p:Int) < x:=by omega
    rcases Int.lt_or_le y (p:Int) with h2 | h2
    · rw [dc_f (fun g=>by omega)]
      clear ha2
      go_enter Tryz.func100,Tryz.ntmps100
      go_wp2_with fail
      go_ret
      exact ⟨rfl,bel1 _ _⟩
    · have h2':¬ y < (p:Int):=by omega
      have HD:Hid (dc (x≤(p:Int)∧(p:Int)≤y∧∀ j,j < p→nm (A j))=dc (∀ j,j < p→nm (A j))):=dc_iff ⟨fun g=>g.2.2,fun g=>⟨h1,h2,g⟩⟩
      rw [show dc (x≤(p:Int)∧(p:Int)≤y∧∀ j,j < p→nm (A j))=dc (∀ j,j < p→nm (A j)) from HD]
      have HA:Hid ((0 < p→∃ a:Addr,pa=some a∧p≤ca∧∀ i,i < p→w.cell? (a.add i)=some (.string (A i)))∧NmS nm):=(⟨ha2,HN⟩:_∧_)
      obtain ⟨R,hR⟩:∃ R,R=dc (∀ j,j < p→nm (A j)):=⟨_,rfl⟩
      have HR:Hid (R=dc (∀ j,j < p→nm (A j))):=hR
      rw [← hR]
      clear hR HD ha2 HN
      go_enter Tryz.func100,Tryz.ntmps100
      go_wp2_with fail
      go_loopw [24] (fun s24 wr=>∃ i:Nat,s24 = .int .i64 (i:Int)∧i≤p∧Hid (Below w.heap.size w wr∧∀ j,j < i→nm (A j))) (fun s24 _=>p - (intOf s24).toNat)
      case atStart=>exact ⟨0,rfl,Nat.zero_le _,(⟨bel1 _ _,fun j hj=>by omega⟩:_∧_)⟩
      case round =>
        obtain ⟨i,rfl,hin,HI⟩:=hrel
        have hI:=(show Below w.heap.size w wr∧∀ j,j < i→nm (A j) from HI)
        have hA:=(show (0 < p→∃ a:Addr,pa=some a∧p≤ca∧∀ i,i < p→w.cell? (a.add i)=some (.string (A i)))∧NmS nm from HA)
        rcases Nat.lt_or_ge i p with hi | hi
        · have hiI:(i:Int) < (p:Int):=by omega
          obtain ⟨b,rfl,hca,hra⟩:=hA.1 (by omega)
          have q0:=hra i hi
          have qa:wr.cell? (b.add i)=some (.string (A i)):=(hI.1.cell (lt_of_cell' q0)).trans q0
          have hcl:=hA.2 (A i)
          by_cases hg:nm (A i)
          · rw [dc_t hg] at hcl
            have HX:Hid (∀ j,j < i+1→nm (A j)):=(fun j hj=>by
              by_cases e:j=i
              · rw [e];exact hg
              · exact hI.2 j (by omega):∀ j,_)
            have HB:Hid (Below w.heap.size w wr):=hI.1
            have HCL:Hid (∀ w,Calls Tryz.prog 104 #[.string (A i)] w fun e w'=>e = .returned (.bool true)∧Below w.heap.size w w'):=hcl
            clear hI HI hA HA hra q0 hin hg hcl
            generalize A i=X at *
            go_wp2_with fail
            refine ((show ∀ w,_ from HCL) _).mono ?_
            rintro e w6 ⟨rfl,hb6⟩
            have HB6:Hid (Below w.heap.size w w6∧∀ j,j < i+1→nm (A j)):=(⟨(show Below w.heap.size w wr from HB).trans (hb6.mono (show Below w.heap.size w wr from HB).size),HX⟩:_∧_)
            clear HCL hb6 HX HB qa
            go_wp2_with fail
            go_roundw
            case rel=>exact ⟨i+1,by go_num,by omega,HB6⟩
            case measure=>simp [intOf];omega
          · rw [dc_f hg] at hcl
            have HX:Hid (R=false):=(show R=dc (∀ j,j < p→nm (A j)) from HR).trans (dc_f (fun g=>hg (g i hi)))
            have HB:Hid (Below w.heap.size w wr):=hI.1
            have HCL:Hid (∀ w,Calls Tryz.prog 104 #[.string (A i)] w fun e w'=>e = .returned (.bool false)∧Below w.heap.size w w'):=hcl
            clear hI HI hA HA hra q0 hin hg hcl
            generalize A i=X at *
            go_wp2_with fail
            refine ((show ∀ w,_ from HCL) _).mono ?_
            rintro e w6 ⟨rfl,hb6⟩
            have HB6:Hid (Below w.heap.size w w6):=(show Below w.heap.size w wr from HB).trans (hb6.mono (show Below w.heap.size w wr from HB).size)
            clear HCL hb6 HB qa
            go_wp2_with fail
            go_ret
            exact ⟨by rw [show R=false from HX];rfl,HB6⟩
        · obtain rfl:i=p:=by omega
          have HX:Hid (R=true∧Below w.heap.size w wr):=(⟨(show R=dc (∀ j,j < i→nm (A j)) from HR).trans (dc_t hI.2),hI.1⟩:_∧_)
          clear hI HI hA HA
          go_wp2_with fail
          go_ret
          exact ⟨by rw [show R=true from HX.1];rfl,HX.2⟩
theorem sp_kid {a : Fv} {vn vk v : Value} {q n : Nat} {K : Nat → Int} {F : Nat → Gv} (w : World) (hf : RowF w v n F) (hr : RowV w vk q (fun i => .int .i64 (K i))) (hvn : ∃ pn p cn, vn = .slice pn p cn) (x : Int) (i : Nat) (hx : x = (i : Int)) (hi : i < q) (hq : q ≤ 1048576) (hn : n ≤ 1048576) (h0 : 0 ≤ K i) (h1 : K i < (n : Int)) :
    Calls Tryz.prog 98 #[.agg #[v],fmv a vn vk,.int .i64 x] w fun e w'=>e = .returned (.int .i64 (kdk F K i))∧Below w.heap.size w w':=by
  subst hx
  obtain ⟨pn,p,cn,rfl⟩:=hvn
  obtain ⟨pk,ck,rfl,hk2⟩:=hr
  obtain ⟨pf,cf,rfl,hf2⟩:=hf
  obtain ⟨b,rfl,hcb,hrb⟩:=hk2 (by omega)
  obtain ⟨c,rfl,hcc,hrc⟩:=hf2 (by omega)
  have q0:=hrb i hi
  obtain ⟨un,uk,hc,_,_⟩:=hrc (K i).toNat (by omega)
  have e0:=hc.c0
  have HE:Hid (kdk F K i=(F (K i).toNat).a.k):=rfl
  rw [show kdk F K i=(F (K i).toNat).a.k from HE]
  have hB:∀ a b:Obj,Below w.heap.size w ((w.alloc a).alloc b):=fun a b=>bel2 _ _ _
  have q0':∀ x y:Obj,((w.alloc x).alloc y).cell? (b.add i)=some (.int .i64 (K i)):=fun x y=>((hB x y).cell (lt_of_cell' q0)).trans q0
  have e0':∀ x y:Obj,((w.alloc x).alloc y).cell? (c.add ((K i).toNat*9))=some (.int .i64 (F (K i).toNat).a.k):=fun x y=>((hB x y).cell (lt_of_cell' e0)).trans e0
  clear hc hrc hrb hk2 hf2 q0 e0 HE hB
  have hiI:(i:Int) < (q:Int):=by omega
  have hqI:(q:Int)≤1048576:=by omega
  have hnI:(n:Int)≤1048576:=by omega
  generalize (F (K i).toNat).a.k=z at *
  generalize K i=y at *
  unfold fmv
  obtain ⟨k,f,t,l,o,m,tx⟩:=a
  dsimp only
  go_enter Tryz.func98,Tryz.ntmps98
  go_wp2_with fail
  go_quiet (skip)
  go_wp2_with fail
  go_ret
  exact ⟨rfl,bdn (bel2 _ _ _) _⟩
theorem sp_exprs {a : Fv} {vn vk v : Value} {q n : Nat} {K : Nat → Int} {F : Nat → Gv} (w : World) (hf : RowF w v n F) (hr : RowV w vk q (fun i => .int .i64 (K i))) (hvn : ∃ pn p cn, vn = .slice pn p cn) (x y : Int) (i0 k0 : Nat) (hx : x = (i0 : Int)) (hy : y = (k0 : Int)) (hk : k0 ≤ q) (hi0 : i0 ≤ 1048576) (hq : q ≤ 1048576) (hn : n ≤ 1048576) (hK : ∀ j, j < q → 0 ≤ K j ∧ K j < (n : Int)) :
    Calls Tryz.prog 101 #[.agg #[v],fmv a vn vk,.int .i64 x,.int .i64 y] w fun e w'=>e = .returned (.bool (dc (∀ j,i0≤j→j < k0→20≤kdk F K j∧kdk F K j≤37)))∧Below w.heap.size w w':=by
  subst hx
  subst hy
  obtain ⟨pn,p,cn,rfl⟩:=hvn
  obtain ⟨pk,ck,rfl,hk2⟩:=hr
  obtain ⟨pf,cf,rfl,hf2⟩:=hf
  have HC:Hid (∀ j,j < q→0≤K j∧K j < (n:Int)∧∃ b c:Addr,pk=some b∧pf=some c∧q≤ck∧n≤cf∧(∀ (x y:Obj) (d:Nat),(((w.alloc x).alloc y).drewN d).cell? (b.add j)=some (.int .i64 (K j)))∧∀ (x y:Obj) (d:Nat),(((w.alloc x).alloc y).drewN d).cell? (c.add ((K j).toNat*9))=some (.int .i64 (kdk F K j))):=(fun j hj=>by
    obtain ⟨h0,h1⟩:=hK j hj
    obtain ⟨b,rfl,hcb,hrb⟩:=hk2 (by omega)
    obtain ⟨c,rfl,hcc,hrc⟩:=hf2 (by omega)
    have q0:=hrb j hj
    obtain ⟨un,uk,hc,_,_⟩:=hrc (K j).toNat (by omega)
    have e0:=hc.c0
    exact ⟨h0,h1,b,c,rfl,rfl,hcb,hcc,fun x y d=>((bdn (bel2 w x y) d).cell (lt_of_cell' q0)).trans q0,fun x y d=>((bdn (bel2 w x y) d).cell (lt_of_cell' e0)).trans e0⟩:∀ j,_)
  obtain ⟨R,hR⟩:∃ R,R=dc (∀ j,i0≤j→j < k0→20≤kdk F K j∧kdk F K j≤37):=⟨_,rfl⟩
  have HR:Hid (R=dc (∀ j,i0≤j→j < k0→20≤kdk F K j∧kdk F K j≤37)):=hR
  rw [← hR]
  have hqI:(q:Int)≤1048576:=by omega
  have hnI:(n:Int)≤1048576:=by omega
  have hkI:(k0:Int)≤(q:Int):=by omega
  have hi0I:(i0:Int)≤1048576:=by omega
  clear hR hK hk2 hf2
  unfold fmv
  obtain ⟨k,f,t,l,o,m,tx⟩:=a
  dsimp only
  go_enter Tryz.func101,Tryz.ntmps101
  go_wp2_with fail
  obtain ⟨W2,hW2⟩:∃ W2,W2=(w.alloc (.cells #[.slice pf n cf] 31)).alloc (.cells #[.int .i64 k,.int .i64 f,.int .i64 t,.int .i64 l,.int .i64 o,.int .i64 m,.string tx,.slice pn p cn,.slice pk q ck] 64):=⟨_,rfl⟩
  rw [← hW2]
  have c0:W2.cell? ⟨w.heap.size,0,none⟩=some (.slice pf n cf):=by
    rw [hW2]
    rw [World.cell?_alloc_past _ _ _ (by simp),World.cell?_alloc_at _ _ _ _ rfl];rfl
  have c8:W2.cell? ⟨w.heap.size+1,8,none⟩=some (.slice pk q ck):=by
    rw [hW2]
    rw [World.cell?_alloc_at _ _ _ _ (by simp)];rfl
  have HB:Hid (∀ d,Below w.heap.size w (W2.drewN d)):=(fun d=>by rw [hW2];exact bdn (bel2 _ _ _) _:∀ d,_)
  have HC2:Hid (∀ j,j < q→0≤K j∧K j < (n:Int)∧∃ b c:Addr,pk=some b∧pf=some c∧q≤ck∧n≤cf∧W2.cell? (b.add j)=some (.int .i64 (K j))∧W2.cell? (c.add ((K j).toNat*9))=some (.int .i64 (kdk F K j))):=(fun j hj=>by
    obtain ⟨h0,h1,b,c,e1,e2,h2,h3,h4,h5⟩:=(show ∀ j,j < q→_ from HC) j hj
    exact ⟨h0,h1,b,c,e1,e2,h2,h3,by rw [hW2];exact h4 _ _ 0,by rw [hW2];exact h5 _ _ 0⟩:∀ j,_)
  clear hW2 HC
  go_loopw [9] (fun s9 wr=>∃ i:Nat,s9 = .int .i64 (i:Int)∧i≤max i0 k0∧Hid (wr.heap=W2.heap∧Below w.heap.size w wr)∧Hid (i0≤i∧∀ j,i0≤j→j < i→20≤kdk F K j∧kdk F K j≤37)) (fun s9 _=>k0 - (intOf s9).toNat)
  case atStart=>exact ⟨i0,rfl,by omega,(⟨rfl,(show ∀ d,Below w.heap.size w (W2.drewN d) from HB) 0⟩:_∧_),(⟨Nat.le_refl _,fun j h1 h2=>by omega⟩:_∧_)⟩
  case round =>
    obtain ⟨i,rfl,hin,HW,HI⟩:=hrel
    have hW:=(show wr.heap=W2.heap∧Below w.heap.size w wr from HW)
    have hcw:∀ p:Addr,wr.cell? p=W2.cell? p:=fun p=>World.cell?_of_block (by rw [hW.1])
    have hI:=(show i0≤i∧∀ j,i0≤j→j < i→20≤kdk F K j∧kdk F K j≤37 from HI)
    rcases Nat.lt_or_ge i k0 with hi | hi
    · have hiI:(i:Int) < (k0:Int):=by omega
      have hiq:(i:Int) < (q:Int):=by omega
      obtain ⟨h0,h1,b,c,rfl,rfl,h2,h3,h4,h5⟩:=(show ∀ j,j < q→_ from HC2) i (by omega)
      rw [← hcw] at h4 h5 c0 c8
      have HW2:Hid (∀ d,(wr.drewN d).heap=W2.heap∧Below w.heap.size w (wr.drewN d)):=(fun d=>⟨hW.1,bdn hW.2 d⟩:∀ d,_)
      clear hcw hW
      by_cases hg : 20≤kdk F K i∧kdk F K i≤37
      · have he:∀ w,Calls Tryz.prog 128 #[.int .i64 (kdk F K i)] w fun e w'=>e = .returned (.bool true)∧w'=w:=fun w=>by have:=sp_expr (kdk F K i) w;rw [dc_t hg] at this;exact this
        have HX:Hid (i0≤i+1∧∀ j,i0≤j→j < i+1→20≤kdk F K j∧kdk F K j≤37):=(⟨by omega,fun j h1 h2=>by
          by_cases e:j=i
          · rw [e];exact hg
          · exact hI.2 j h1 (by omega)⟩:_∧_)
        clear hI HI HC2 hg
        generalize kdk F K i=z at *
        generalize K i=y at *
        go_wp2_with fail
        go_quiet ((go_at_call 128;exact Calls.quiet_of_same (he _)))
        go_wp2_with fail
        go_roundw
        case rel=>exact ⟨i+1,by go_num,by omega,(show ∀ d,(wr.drewN d).heap=W2.heap∧Below w.heap.size w (wr.drewN d) from HW2) _,HX⟩
        case measure=>simp [intOf];omega
      · have he:∀ w,Calls Tryz.prog 128 #[.int .i64 (kdk F K i)] w fun e w'=>e = .returned (.bool false)∧w'=w:=fun w=>by have:=sp_expr (kdk F K i) w;rw [dc_f hg] at this;exact this
        have HX:Hid (R=false):=(show R=dc (∀ j,i0≤j→j < k0→20≤kdk F K j∧kdk F K j≤37) from HR).trans (dc_f (fun g=>hg (g i hI.1 hi)))
        clear hI HI HC2 hg
        generalize kdk F K i=z at *
        generalize K i=y at *
        go_wp2_with fail
        go_quiet ((go_at_call 128;exact Calls.quiet_of_same (he _)))
        go_wp2_with fail
        go_ret
        exact ⟨by rw [show R=false from HX];rfl,((show ∀ d,(wr.drewN d).heap=W2.heap∧Below w.heap.size w (wr.drewN d) from HW2) _).2⟩
    · have hiI:¬ (i:Int) < (k0:Int):=by omega
      have HX:Hid (R=true):=(show R=dc (∀ j,i0≤j→j < k0→20≤kdk F K j∧kdk F K j≤37) from HR).trans (dc_t (fun j h1 h2=>hI.2 j h1 (by omega)))
      clear hI HI HC2 hcw hW
      go_wp2_with fail
      go_ret
      exact ⟨by rw [show R=true from HX];rfl,HW.2⟩
theorem Bx.below {W W':World} {b:Nat} {a:Fv} {vn vk:Value} (h:Bx W b a vn vk) (hb:Below W.heap.size W W'):Bx W' b a vn vk:=by
  have hl:=lt_of_cell h.c0
  have e:∀ j,W'.cell? ⟨b,j,none⟩=W.cell? ⟨b,j,none⟩:=fun j=>hb.cell (p:=⟨b,j,none⟩) hl
  exact ⟨(e _).trans h.c0,(e _).trans h.c1,(e _).trans h.c2,(e _).trans h.c3,(e _).trans h.c4,(e _).trans h.c5,(e _).trans h.c6,(e _).trans h.c7,(e _).trans h.c8⟩
structure Sy (nm:ByteArray→Prop) (W2:World) (b:Nat) (v:Value) (n:Nat) (F:Nat→Gv) (a:Fv) (vn vk:Value) (p:Nat) (A:Nat→ByteArray) (q:Nat) (K:Nat→Int):Prop where
  hn:NmS nm
  ct:W2.cell? ⟨b,0,none⟩=some v
  bx:Bx W2 (b+1) a vn vk
  rf:RowF W2 v n F
  rn:RowV W2 vn p (fun i=>.string (A i))
  rk:RowV W2 vk q (fun i=>.int .i64 (K i))
  hp:p≤1048576
  hq:q≤1048576
  hnn:n≤1048576
  hk:∀ j,j < q→0≤K j∧K j < (n:Int)
section
variable {nm:ByteArray→Prop} {W2:World} {b:Nat} {v:Value} {n:Nat} {F:Nat→Gv} {a:Fv} {vn vk:Value} {p:Nat} {A:Nat→ByteArray} {q:Nat} {K:Nat→Int}
theorem Sy.bare (s:Sy nm W2 b v n F a vn vk p A q K) (op num text names:Bool) (W:World) (hb:Below W2.heap.size W2 W):Calls Tryz.prog 99 #[fmv a vn vk,.bool op,.bool num,.bool text,.bool names] W fun e w'=>e = .returned (.bool (dc (br a p op num text names)))∧Below W2.heap.size W2 w':=by
  obtain ⟨pn,cn,rfl,_⟩:=s.rn
  obtain ⟨pk,ck,rfl,_⟩:=s.rk
  have hp:=s.hp
  exact (sp_bare a pn p cn _ ⟨pk,q,ck,rfl⟩ op num text names W (by omega)).mono fun e w' h=>⟨h.1,below_to hb h.2⟩
theorem Sy.named (s:Sy nm W2 b v n F a vn vk p A q K) (x y:Int) (hx : 0≤x) (hy:y≤1000) (W:World) (hb:Below W2.heap.size W2 W):Calls Tryz.prog 100 #[fmv a vn vk,.int .i64 x,.int .i64 y] W fun e w'=>e = .returned (.bool (dc (nd nm p A x y)))∧Below W2.heap.size W2 w':=by
  obtain ⟨pk,ck,hv,_⟩:=s.rk
  exact (sp_named s.hn W (s.rn.below hb) ⟨pk,q,ck,hv⟩ x y s.hp hx hy).mono fun e w' h=>⟨h.1,below_to hb h.2⟩
theorem Sy.kid (s:Sy nm W2 b v n F a vn vk p A q K) (x:Int) (i:Nat) (hx:x=(i:Int)) (hi:i < q) (W:World) (hb:Below W2.heap.size W2 W):Calls Tryz.prog 98 #[.agg #[v],fmv a vn vk,.int .i64 x] W fun e w'=>e = .returned (.int .i64 (kdk F K i))∧Below W2.heap.size W2 w':=by
  obtain ⟨pn,cn,hv,_⟩:=s.rn
  exact (sp_kid W (s.rf.below hb) (s.rk.below hb) ⟨pn,p,cn,hv⟩ x i hx hi s.hq s.hnn (s.hk i hi).1 (s.hk i hi).2).mono fun e w' h=>⟨h.1,below_to hb h.2⟩
theorem Sy.exprs (s:Sy nm W2 b v n F a vn vk p A q K) (x y:Int) (i k:Nat) (hx:x=(i:Int)) (hy:y=(k:Int)) (hk:k≤q) (hi:i≤1048576) (W:World) (hb:Below W2.heap.size W2 W):Calls Tryz.prog 101 #[.agg #[v],fmv a vn vk,.int .i64 x,.int .i64 y] W fun e w'=>e = .returned (.bool (dc (ex F K i k)))∧Below W2.heap.size W2 w':=by
  obtain ⟨pn,cn,hv,_⟩:=s.rn
  exact (sp_exprs W (s.rf.below hb) (s.rk.below hb) ⟨pn,p,cn,hv⟩ x y i k hx hy hk hi s.hq s.hnn s.hk).mono fun e w' h=>⟨h.1,below_to hb h.2⟩
end
structure Sx (nm:ByteArray→Prop) (w:World) (v:Value) (n:Nat) (F:Nat→Gv) (vn vk:Value) (p:Nat) (A:Nat→ByteArray) (q:Nat) (K:Nat→Int):Prop where
  hn:NmS nm
  rf:RowF w v n F
  rn:RowV w vn p (fun i=>.string (A i))
  rk:RowV w vk q (fun i=>.int .i64 (K i))
  hp:p≤1048576
  hq:q≤1048576
  hnn:n≤1048576
  hk:∀ j,j < q→0≤K j∧K j < (n:Int)
theorem Sx.sy {nm : ByteArray → Prop} {w : World} {v : Value} {n : Nat} {F : Nat → Gv} {vn vk : Value} {p : Nat} {A : Nat → ByteArray} {q : Nat} {K : Nat → Int} (s : Sx nm w v n F vn vk p A q K) (a : Fv) (t1 t2 : TypeId) :
    Sy nm ((w.alloc (.cells #[v] t1)).alloc (.cells #[.int .i64 a.k,.int .i64 a.f,.int .i64 a.t,.int .i64 a.l,.int .i64 a.o,.int .i64 a.m,.string a.x,vn,vk] t2)) w.heap.size v n F a vn vk p A q K:=by
  have hb:=bel2 w (.cells #[v] t1) (.cells #[.int .i64 a.k,.int .i64 a.f,.int .i64 a.t,.int .i64 a.l,.int .i64 a.o,.int .i64 a.m,.string a.x,vn,vk] t2)
  refine ⟨s.hn,?_,?_,s.rf.below hb,s.rn.below hb,s.rk.below hb,s.hp,s.hq,s.hnn,s.hk⟩
  · rw [World.cell?_alloc_past _ _ _ (by simp),World.cell?_alloc_at _ _ _ _ rfl];rfl
  · have:=Bx.new (w.alloc (.cells #[v] t1)) a vn vk t2
    simpa using this
theorem st_2 {nm : ByteArray → Prop} {w : World} {v : Value} {n : Nat} {F : Nat → Gv} {vn vk : Value} {p : Nat} {A : Nat → ByteArray} {q : Nat} {K : Nat → Int} (s : Sx nm w v n F vn vk p A q K) (a : Fv) (hk : a.k = 2) :
    Calls Tryz.prog 67 #[.agg #[v],fmv a vn vk] w fun e w'=>e = .returned (.bool (dc (br a p false false false true∧nd nm p A 1 200∧ex F K 0 q)))∧Below w.heap.size w w':=by
  have hs:=s.sy a 31 64
  obtain ⟨W2,hW2⟩:∃ W2,W2=(w.alloc (.cells #[v] 31)).alloc (.cells #[.int .i64 a.k,.int .i64 a.f,.int .i64 a.t,.int .i64 a.l,.int .i64 a.o,.int .i64 a.m,.string a.x,vn,vk] 64):=⟨_,rfl⟩
  rw [← hW2] at hs
  have HBL:Hid (∀ W,Below W2.heap.size W2 W→Below w.heap.size w W):=(fun W hb=>by rw [hW2] at hb;exact (bel2 w _ _).trans (hb.mono (bel2 w _ _).size):∀ W,_)
  have HSY:Hid (Sy nm W2 w.heap.size v n F a vn vk p A q K):=hs
  have hqI:(q:Int)≤1048576:=by have:=s.hq;omega
  obtain ⟨pn,cn,rfl,_⟩:=s.rn
  obtain ⟨pk,ck,rfl,_⟩:=s.rk
  obtain ⟨pf,cf,rfl,_⟩:=s.rf
  have HSQ:Hid (q≤1048576):=s.hq
  obtain ⟨R,hR⟩:∃ R,R=dc (br a p false false false true∧nd nm p A 1 200∧ex F K 0 q):=⟨_,rfl⟩
  have HR:Hid (R=dc (br a p false false false true∧nd nm p A 1 200∧ex F K 0 q)):=hR
  rw [← hR]
  clear hs s hR
  obtain ⟨k,f,t,l,o,m,x⟩:=a
  dsimp only at hk
  subst hk
  go_enter Tryz.func67,Tryz.ntmps67
  unfold fmv
  dsimp only at hW2
  go_wp2_with fail
  rw [← hW2]
  clear hW2
  have B0:Below W2.heap.size W2 W2:=Below.refl _ _
  obtain ⟨c0,c1,c2,c3,c4,c5,c6,c7,c8⟩:=(show Sy nm W2 w.heap.size _ n F _ _ _ p A q K from HSY).bx
  have ct:=(show Sy nm W2 w.heap.size _ n F _ _ _ p A q K from HSY).ct
  dsimp only at c0 c1 c2 c3 c4 c5 c6
  go_wp2_with fail
  refine ((show Sy nm W2 w.heap.size _ n F _ _ _ p A _ K from HSY).bare false false false true _ B0).mono ?_
  rintro e w1 ⟨rfl,B1⟩
  clear c0 c1 c2 c3 c4 c5 c6 c7 c8 ct
  obtain ⟨c0,c1,c2,c3,c4,c5,c6,c7,c8⟩:=(show Sy nm W2 w.heap.size _ n F _ _ _ p A _ K from HSY).bx.below B1
  have ct:=(B1.cell (p:=⟨w.heap.size,0,none⟩) (lt_of_cell (show Sy nm W2 w.heap.size _ n F _ _ _ p A _ K from HSY).ct)).trans (show Sy nm W2 w.heap.size _ n F _ _ _ p A _ K from HSY).ct
  dsimp only at c0 c1 c2 c3 c4 c5 c6
  by_cases h0:br ⟨2,f,t,l,o,m,x⟩ p false false false true
  · rw [dc_t h0]
    have HH0:Hid (br ⟨2,f,t,l,o,m,x⟩ p false false false true):=h0
    clear h0
    go_wp2_with fail
    refine ((show Sy nm W2 w.heap.size _ n F _ _ _ p A _ K from HSY).named 1 200 (by omega) (by omega) _ B1).mono ?_
    rintro e w2 ⟨rfl,B2⟩
    clear c0 c1 c2 c3 c4 c5 c6 c7 c8 ct
    obtain ⟨c0,c1,c2,c3,c4,c5,c6,c7,c8⟩:=(show Sy nm W2 w.heap.size _ n F _ _ _ p A _ K from HSY).bx.below B2
    have ct:=(B2.cell (p:=⟨w.heap.size,0,none⟩) (lt_of_cell (show Sy nm W2 w.heap.size _ n F _ _ _ p A _ K from HSY).ct)).trans (show Sy nm W2 w.heap.size _ n F _ _ _ p A _ K from HSY).ct
    dsimp only at c0 c1 c2 c3 c4 c5 c6
    by_cases h1:nd nm p A 1 200
    · rw [dc_t h1]
      have HH1:Hid (nd nm p A 1 200):=h1
      clear h1
      go_wp2_with fail
      refine ((show Sy nm W2 w.heap.size _ n F _ _ _ p A _ K from HSY).exprs _ _ 0 q rfl (by first | rfl | omega) (by omega) (by omega) _ B2).mono ?_
      rintro e w3 ⟨rfl,B3⟩
      clear c0 c1 c2 c3 c4 c5 c6 c7 c8 ct
      obtain ⟨c0,c1,c2,c3,c4,c5,c6,c7,c8⟩:=(show Sy nm W2 w.heap.size _ n F _ _ _ p A _ K from HSY).bx.below B3
      have ct:=(B3.cell (p:=⟨w.heap.size,0,none⟩) (lt_of_cell (show Sy nm W2 w.heap.size _ n F _ _ _ p A _ K from HSY).ct)).trans (show Sy nm W2 w.heap.size _ n F _ _ _ p A _ K from HSY).ct
      dsimp only at c0 c1 c2 c3 c4 c5 c6
      by_cases h2:ex F K 0 q
      · rw [dc_t h2]
        have HH2:Hid (ex F K 0 q):=h2
        clear h2
        go_wp2_with fail
        go_ret
        exact ⟨by rw [show R = _ from HR,dc_t ⟨HH0,HH1,HH2⟩];rfl,(show ∀ W,Below W2.heap.size W2 W→Below w.heap.size w W from HBL) _ B3⟩
      · rw [dc_f h2]
        have HN9:Hid (¬ (ex F K 0 q)):=h2
        clear h2
        go_wp2_with fail
        go_ret
        exact ⟨by rw [show R = _ from HR,dc_f (fun g=>HN9 g.2.2)];rfl,(show ∀ W,Below W2.heap.size W2 W→Below w.heap.size w W from HBL) _ B3⟩
    · rw [dc_f h1]
      have HN9:Hid (¬ (nd nm p A 1 200)):=h1
      clear h1
      go_wp2_with fail
      go_ret
      exact ⟨by rw [show R = _ from HR,dc_f (fun g=>HN9 g.2.1)];rfl,(show ∀ W,Below W2.heap.size W2 W→Below w.heap.size w W from HBL) _ B2⟩
  · rw [dc_f h0]
    have HN9:Hid (¬ (br ⟨2,f,t,l,o,m,x⟩ p false false false true)):=h0
    clear h0
    go_wp2_with fail
    go_ret
    exact ⟨by rw [show R = _ from HR,dc_f (fun g=>HN9 g.1)];rfl,(show ∀ W,Below W2.heap.size W2 W→Below w.heap.size w W from HBL) _ B1⟩
end Go.Proofs.YtomcmnompajnlaaGreatDoor.Fo
