import Derived.Test.YtohbcpfjjimdnaaGreatDoorMTmr
namespace Go.Proofs.YtohbcpfjjimdnaaGreatDoor.Fo
open Go.ChangeShapes Go.WideShapes Go.ChangeAt Go.RowKit
set_option linter.unusedVariables false
set_option maxRecDepth 100000
theorem sp_silent{d:Pd}{pn:Option Addr}{cn i:Nat}{vu vc vd:Value}(w:World)(hrow:RowI 0 w (.slice pn d.n cn) d.n d.N)(hi:i<d.n)(hn:d.n<=1048576)(hx:IsSl vu/\IsSl vc/\IsSl vd):
  Calls Tryz.prog 61 #[.agg #[.string d.x,.int .i64 d.l,.int .i64 d.m,.bool d.r,.int .i64 d.g,vu,vc,.slice pn d.n cn,vd],.int .i64 i] w (SlA (d.N i) i w):=by
 rcases hd:d.N i with⟨o,oa,ob,oc,od⟩;rw[<-hd];by_cases h:o=1
 ·exact si_1 w hrow hi hn hx hd h
 have n1:=h;clear h;by_cases h:o=3
 ·exact si_3 w hrow hi hn hx hd h
 have n3:=h;clear h;by_cases h:o=28
 ·exact si_28 w hrow hi hn hx hd h
 have n28:=h;clear h;by_cases h:o=29
 ·exact si_29 w hrow hi hn hx hd h
 have n29:=h;clear h;by_cases h:o=30
 ·exact si_30 w hrow hi hn hx hd h
 have n30:=h;clear h;by_cases h:o=19
 ·exact si_19 w hrow hi hn hx hd h
 have n19:=h;clear h;by_cases h:o=41
 ·exact si_41 w hrow hi hn hx hd h
 have n41:=h;clear h;by_cases h:o=20
 ·exact si_20 w hrow hi hn hx hd h
 have n20:=h;clear h;by_cases h:o=21
 ·exact si_21 w hrow hi hn hx hd h
 have n21:=h;clear h;by_cases h:o=38
 ·exact si_38 w hrow hi hn hx hd h
 have n38:=h;clear h;by_cases h:o=39
 ·exact si_39 w hrow hi hn hx hd h
 have n39:=h;clear h;by_cases h:o=31
 ·exact si_31 w hrow hi hn hx hd h
 have n31:=h;clear h;by_cases h:o=18
 ·by_cases hb:ob=12
  ·exact si_18a w hrow hi hn hx hd ⟨h,hb⟩
  ·exact si_18b w hrow hi hn hx hd ⟨h,hb⟩
 exact si_oth w hrow hi hn hx hd ⟨n1,n3,n28,n29,n30,h,n19,n41,n20,n21,n38,n39,n31⟩
