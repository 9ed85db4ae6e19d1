import Derived.Test.YtohbcpfjjimdnaaGreatDoorProg
import Derived.WalkKit
import Derived.Below
namespace Go.Proofs.YtohbcpfjjimdnaaGreatDoor
open Go.RowKit
theorem uh{p:Prop}(h:Hid p):p:=h
theorem zq{n:Nat}:0≤n:=Nat.zero_le n
theorem hst0:∀ (a:Addr) (n:Nat) (m:Mode) (w:World),(store a (.float .f64 n) m).run Tryz.prog w=stored Tryz.prog w a (.float .f64 n) m:=fun _ _ _ _=>run_store _ _ _ _ _ rfl
