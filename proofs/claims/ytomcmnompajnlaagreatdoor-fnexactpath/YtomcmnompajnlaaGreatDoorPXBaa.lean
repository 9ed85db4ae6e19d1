import Derived.Test.YtomcmnompajnlaaGreatDoorBBaa
import Derived.Test.YtomcmnompajnlaaGreatDoorProg
import GoSem.Claim
import GoSem.ClaimJoined
import GoSem.ClaimMapViews
import Derived.JoinedTies
import Derived.KernelRfl
import Derived.WalkKit
import Derived.ProofKit
import Derived.OpenShut
import Derived.Handy
import Derived.Laws.Strings3
import Derived.Lib.Strings
import Derived.Laws.OwnMore
import Derived.Laws.IdiomStrings
import Derived.Lib.UnsafeStr
import Derived.Deep.QuietTactic
import Derived.BigQuiet
import Derived.Deep.AppendLies
set_option maxRecDepth 100000
set_option maxHeartbeats 4000000
namespace Go.Proofs.YtomcmnompajnlaaGreatDoor.Fo
open Go.ChangeShapes Go.WideShapes Go.ChangeAt Go.RowKit
set_option linter.unusedVariables false
theorem held_ints {va : Value} {n : Nat} (w : World) (k : Int) (ha : RowV w va n (fun i => .int .i64 (k + (i : Int)))) (hn : n ≤ 1048576) (hk0 : 0 ≤ k) (hk : k ≤ 100000000) :
    Calls Tryz.prog 19 #[va,.int .i64 k] w fun e w'=>e = .returned (.int .i64 (k+(n:Int)))∧∃ d,w'=w.drewN d:=by
  obtain ⟨pa,ca,rfl,ha2⟩:=ha
  have HA:Hid (0 < n→∃ a:Addr,pa=some a∧n≤ca∧∀ i,i < n→w.cell? (a.add i)=some (.int .i64 (k+(i:Int)))):=ha2
  have hnI:(n:Int)≤1048576:=by omega
  clear ha2 hn
  go_enter Tryz.func19,Tryz.ntmps19
  go_wp2_with fail
  go_loopw [1,5] (fun s1 s5 wr=>∃ i d:Nat,s1 = .int .i64 (k+(i:Int))∧s5 = .int .i64 (i:Int)∧i≤n∧wr=w.drewN d) (fun _ s5 _=>n - (intOf s5).toNat)
  case atStart=>exact ⟨0,0,by simp,rfl,Nat.zero_le _,rfl⟩
  case round =>
    obtain ⟨i,d,rfl,rfl,hin,rfl⟩:=hrel
    rcases Nat.lt_or_ge i n with hi | hi
    · obtain ⟨a,rfl,hca,hra⟩:=(show (0 < n→∃ a:Addr,pa=some a∧n≤ca∧∀ i,i < n→w.cell? (a.add i)=some (.int .i64 (k+(i:Int)))) from HA) (by omega)
      have hiI:(i:Int) < (n:Int):=by omega
      have qa:=hra i hi
      clear hra HA hin
      have hx:k+(i:Int)≤101048576:=by omega
      have hx0 : 0≤k+(i:Int):=by omega
      generalize hxk:k+(i:Int)=x at *
      go_wp2_with fail
      go_roundw
      case rel=>exact ⟨i+1,_,by subst hxk;go_num,by go_num,by omega,rfl⟩
      case measure=>simp [intOf];omega
    · obtain rfl:i=n:=by omega
      clear HA
      go_wp2_with fail
      go_ret
      exact ⟨rfl,_,rfl⟩
end Go.Proofs.YtomcmnompajnlaaGreatDoor.Fo
