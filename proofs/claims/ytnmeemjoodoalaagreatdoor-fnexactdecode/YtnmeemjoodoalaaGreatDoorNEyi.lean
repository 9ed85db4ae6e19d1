import Derived.Test.YtnmeemjoodoalaaGreatDoorNEpl
import Derived.Test.YtnmeemjoodoalaaGreatDoorNBab
import Derived.Test.YtnmeemjoodoalaaGreatDoorNExt
set_option maxHeartbeats 4000000
namespace Go.Proofs.YtnmeemjoodoalaaGreatDoor.Fo
open Go.ChangeShapes Go.WideShapes Go.ChangeAt Go.RowKit
set_option linter.unusedVariables false
set_option maxRecDepth 100000
theorem to_byts {va : Value} {n : Nat} {A : Nat → Int} (w : World) (ha : RowV w va n (fun i => .int .u8 (A i))) (hn : n ≤ 1048576) :
    Calls Tryz.prog 15 #[va] w fun e w'=>∃ v,e = .returned v ∧ OwnR w' v w.heap.size n (fun i=>.int .u8 (A i)) ∧ Below w.heap.size w w' ∧ w.heap.size < w'.heap.size:=by
  obtain ⟨pa,ca,rfl,ha2⟩:=ha
  have hnI : (n : Int) ≤ 1048576:=by omega
  have hmk:=run_make (P:=Tryz.prog) w 26 5 Tryz.t5 (.int .u8 0) Tryz.underlying26 (by kernel_rfl) (by kernel_rfl) .i64 .i64 (n : Int) (n : Int) (by omega) (Int.le_refl _) (by show (1 : Int) * (n : Int) ≤ _;omega) (by omega)
  rw [Int.toNat_natCast] at hmk
  obtain ⟨w1,hw1⟩ : ∃ w1,w1 = w.alloc (.cells (madeCells (.int .u8 0 : Value).cells (n * Tryz.t5.size)) 5):=⟨_,rfl⟩
  rw [← hw1] at hmk
  have c1 : ∀ j,j < n → w1.cell? ⟨w.heap.size,j,none⟩ = some (.int .u8 0):=by intro j hj;rw [hw1];exact made_cell w _ 5 n rfl j hj
  have f1 : ∀ j,w1.frozen? ⟨w.heap.size,j,none⟩ = false:=by intro j;rw [hw1];exact made_fz _ _ _ _
  have b1 : Below w.heap.size w w1:=by rw [hw1];exact (Below.refl _ w).alloc (Nat.le_refl _) _
  have l1 : w.heap.size < w1.heap.size:=by rw [hw1];simp
  have HI0 : Hid (MkR w1 w.heap.size n (fun _=>.int .u8 0) (fun i=>.int .u8 (A i)) 0 w1):=(⟨Kq.refl _ _,fun i hi=>by omega,fun i _ hi=>c1 i hi,f1⟩ : MkR w1 w.heap.size n _ _ 0 w1)
  have HA : Hid ((0 < n → ∃ a : Addr,pa = some a ∧ n ≤ ca ∧ ∀ i,i < n → w.cell? (a.add i) = some (.int .u8 (A i))) ∧ Below w.heap.size w w1 ∧ w.heap.size < w1.heap.size):=(⟨ha2,b1,l1⟩ : _ ∧ _ ∧ _)
  clear ha2 b1 c1 f1 hw1 hn l1
  obtain ⟨G,hG⟩ : ∃ G,G = w.heap.size:=⟨_,rfl⟩
  rw [← hG] at hmk HI0 ⊢
  have HG : Hid (G = w.heap.size):=hG
  clear hG
  go_enter Tryz.func15,Tryz.ntmps15
  go_wp2_with fail
  go_loopw [4] (fun s4 wr=>∃ i : Nat,s4 = .int .i64 (i : Int) ∧ i ≤ n ∧ Hid (MkR w1 G n (fun _=>.int .u8 0) (fun i=>.int .u8 (A i)) i wr)) (fun s4 _=>n - (intOf s4).toNat)
  case atStart=>exact ⟨0,rfl,Nat.zero_le _,HI0⟩
  case round =>
    clear HI0 hmk
    obtain ⟨i,rfl,hin,HI⟩:=hrel
    have hI:=(show MkR w1 G n (fun _=>.int .u8 0) (fun i=>.int .u8 (A i)) i wr from HI)
    have hA:=(show (0 < n → ∃ a : Addr,pa = some a ∧ n ≤ ca ∧ ∀ i,i < n → w.cell? (a.add i) = some (.int .u8 (A i))) ∧ Below w.heap.size w w1 ∧ w.heap.size < w1.heap.size from HA)
    rcases Nat.lt_or_ge i n with hi | hi
    · have hiI : (i : Int) < (n : Int):=by omega
      obtain ⟨a,rfl,hca,hra⟩:=hA.1 (by omega)
      have q0:=hra i hi
      have hl:=lt_of_cell' q0
      have qa : wr.cell? (a.add i) = some (.int .u8 (A i)):=by
        rw [World.cell?_of_block (w:=w1) (hI.kq.block _ (Nat.lt_of_lt_of_le hl hA.2.1.size) (by rw [show G = w.heap.size from HG];omega)),hA.2.1.cell hl]
        exact q0
      obtain ⟨c,f,hM⟩:=hI.step hi (Below.refl _ _)
      have HM : Hid (MkR w1 G n (fun _=>.int .u8 0) (fun i=>.int .u8 (A i)) (i + 1) (wr.setCell ⟨G,i,none⟩ (.int .u8 (A i)))):=hM
      clear hM hI HI hin hA HA hra q0 hl HG
      generalize A i = y at qa HM
      go_wp2_with fail
      go_roundw
      case rel=>exact ⟨i + 1,by go_num,by omega,HM⟩
      case measure=>simp [intOf];omega
    · obtain rfl : i = n:=by omega
      have HE : Hid (MkR w1 G i (fun _=>.int .u8 0) (fun i=>.int .u8 (A i)) i wr ∧ Below w.heap.size w w1 ∧ G = w.heap.size ∧ w.heap.size < w1.heap.size):=(⟨hI,hA.2.1,HG,hA.2.2⟩ : _ ∧ _ ∧ _ ∧ _)
      clear HI hI hA HA HG
      go_wp2_with fail
      go_ret
      obtain ⟨hE,hB,rfl,hL⟩:=(show MkR w1 G i (fun _=>.int .u8 0) (fun i=>.int .u8 (A i)) i wr ∧ Below w.heap.size w w1 ∧ G = w.heap.size ∧ w.heap.size < w1.heap.size from HE)
      refine ⟨_,rfl,⟨⟨_,_,rfl,fun _=>⟨rfl,Nat.le_refl _⟩⟩,fun j hj=>hE.don j hj,fun _ j=>hE.fz j⟩,?_,Nat.lt_of_lt_of_le hL hE.kq.size⟩
      exact ⟨hE.kq.os.trans hB.os,hE.kq.tape.trans hB.tape,hE.kq.output.trans hB.output,Nat.le_trans hB.size hE.kq.size,fun k hk=>(hE.kq.block k (Nat.lt_of_lt_of_le hk hB.size) (by omega)).trans (hB.block k hk)⟩
end Go.Proofs.YtnmeemjoodoalaaGreatDoor.Fo
