import Derived.Test.YtomcmnompajnlaaGreatDoorBSdj
import Derived.Test.YtomcmnompajnlaaGreatDoorBSdd
import Derived.Test.YtomcmnompajnlaaGreatDoorBSbk
import Derived.Test.YtomcmnompajnlaaGreatDoorBSda
import Derived.Test.YtomcmnompajnlaaGreatDoorBScc
import Derived.Test.YtomcmnompajnlaaGreatDoorBSbd
import Derived.Test.YtomcmnompajnlaaGreatDoorBRab
import Derived.Test.YtomcmnompajnlaaGreatDoorBShc
import Derived.Test.YtomcmnompajnlaaGreatDoorBQua
import Derived.Test.YtomcmnompajnlaaGreatDoorProg
import GoSem.Claim
import GoSem.ClaimJoined
import GoSem.ClaimMapViews
import Derived.JoinedTies
import Derived.KernelRfl
import Derived.WalkKit
import Derived.ProofKit
import Derived.OpenShut
import Derived.Handy
import Derived.Laws.Strings3
import Derived.Lib.Strings
import Derived.Laws.OwnMore
import Derived.Laws.IdiomStrings
import Derived.Lib.UnsafeStr
import Derived.Deep.QuietTactic
import Derived.BigQuiet
import Derived.Deep.AppendLies
import Derived.Deep.MidRow
import Derived.Shelf.Strconv.Clone
import Derived.Lib.ConvBytes
import Derived.Lib.AtoiErrMem
import Derived.Lib.AtoiAllMem
import Derived.Laws.Closers25
import Derived.Laws.Closers25b
import Derived.BigCall
import Derived.BigGuard
import Derived.Lib.IfaceNeq
import Derived.Lib.IfaceEq
import Derived.Deep.RegionWith
import Derived.RangeFuncNested
import Derived.RangeFuncBound
import Derived.RangeFuncCalls
import Derived.RangeFuncLeaves
import Derived.Shelf.Abstract
import Derived.Shelf.RegionOpen
import Derived.OwnWalkIn
import Derived.TacticsInMore
import Derived.LoopNIn
import Derived.LoopIn
import Derived.Maps.AppendAt
import Derived.Lib.BufferRead
import Derived.BigRegion
import Derived.Deep.Cut
import Derived.Deep.CutBlock
import Derived.Deep.Light
import Derived.Deep.RegionHeldLaw
import Derived.Test.YtomcmnompajnlaaGreatDoorBTud
import Derived.Test.YtomcmnompajnlaaGreatDoorBQsh
import Derived.Shelf.Strings.Builder1
import Derived.Shelf.Strings.OnBuilder
import Derived.Shelf.Strconv.Itoa3
import Derived.Shelf.LaysM
import Derived.Lib.ItoaLen
import Derived.Test.YtomcmnompajnlaaGreatDoorBBab
import Derived.Test.YtomcmnompajnlaaGreatDoorBBaa
import Derived.Laws.MakeOwn
import Derived.OwnWalk
import Derived.WalkSpells
import Derived.Deep.Slices
import Derived.SizedLaws
import Derived.Carry
import Derived.Deep.Upon
import Derived.Test.YtomcmnompajnlaaGreatDoorBSpf
import Derived.Test.YtomcmnompajnlaaGreatDoorBSpe
import Derived.Test.YtomcmnompajnlaaGreatDoorBSkm
import Derived.Test.YtomcmnompajnlaaGreatDoorBTkc
import Derived.Test.YtomcmnompajnlaaGreatDoorBSpb
import Derived.Test.YtomcmnompajnlaaGreatDoorBSpy
import Derived.Test.YtomcmnompajnlaaGreatDoorBSpi
import Derived.RangeFuncFrom
import Derived.RangeFuncBox
import Derived.Test.YtomcmnompajnlaaGreatDoorBSpl
import Derived.Barred
import Derived.Test.YtomcmnompajnlaaGreatDoorTXZBaw
set_option maxRecDepth 100000
set_option maxHeartbeats 8000000
namespace Go.Proofs.YtomcmnompajnlaaGreatDoor.Fo
open Go.ChangeShapes Go.WideShapes Go.ChangeAt Go.RowKit
set_option linter.unusedVariables false
theorem sz_len (x:ByteArray):x.data.toList.length=x.size:=by
 show x.data.toList.length=x.data.size
 simp
theorem two_ends {P : Program} {f : FuncId} {args : Array Value} {w : World} {R R' : Value → World → Prop}
  (h:Calls P f args w fun | .returned v,w'=>R v w' | _,_=>False) (h':Calls P f args w fun | .returned v,w'=>R' v w' | _,_=>False) (hi:P.inits.idxOf? f=none) :
  ∃ v w',R v w'∧R' v w':=by
 obtain ⟨n,v,w1,e1,r1⟩:=h.done hi
 obtain ⟨m,v',w2,e2,r2⟩:=h'.done hi
 have a:=runN_ended e1 m
 have b:=runN_ended e2 n
 rw [Nat.add_comm,a] at b
 injection b with ho hw
 injection ho with hv
 subst hv hw
 exact ⟨_,_,r1,r2⟩
theorem one_bool {f:FuncId} {x:ByteArray} {z:Bool} (w:World) (h1:Calls Tryz.prog f #[.string x] w fun e w'=>e = .returned (.bool z)∧Below w.heap.size w w') (h2:Calls Tryz.prog f #[.string x] w fun e w'=>e = .returned (.bool false)∧Below w.heap.size w w') (hi:Tryz.prog.inits.idxOf? f=none):z=false:=by
 obtain ⟨v,w',r1,r2⟩:=two_ends (R:=fun v _=>v = .bool z) (R':=fun v _=>v = .bool false) (h1.mono fun e w' ⟨he,_⟩=>by subst he;rfl) (h2.mono fun e w' ⟨he,_⟩=>by subst he;rfl) hi
 rw [r1] at r2
 exact Value.bool.inj r2
theorem nm_40 (w:World) (x:ByteArray) (h:nmp x):x.size≤40:=by
 rcases Nat.lt_or_ge 40 x.size with h1 | h1
 ·have:=one_bool w (nm_s x w) (name_ok_big x (by omega) w) (by kernel_rfl)
  rw [dc_t h] at this
  cases this
 ·exact h1
end Go.Proofs.YtomcmnompajnlaaGreatDoor.Fo
namespace Go.Proofs.YtomcmnompajnlaaGreatDoor.Fo.Po
open Go.ChangeShapes Go.WideShapes Go.ChangeAt Go.RowKit
set_option linter.unusedVariables false
def Nmx (x:ByteArray):Prop:=0 < x.size∧x.size≤40∧(∀ k,k < x.size→isL (lk x.data.toList k)=true∨(k ≠ 0∧isD (lk x.data.toList k)=true))∧∀ j,j < 22→((wordsB j).toList == x.toList)=false
theorem spec_words25 (w:World):Calls Tryz.prog 138 #[] w fun e w'=>e = .returned (.slice (some ⟨w.heap.size,0,none⟩) 22 22)∧w'=w.alloc (.cells wordsA 9):=by
 go_enter Tryz.func138,Tryz.ntmps138
 go_wp2
 go_ret
 exact ⟨rfl,rfl⟩
theorem isL_nat (c:UInt8):isL c=true↔(97≤c.toNat∧c.toNat≤122∨65≤c.toNat∧c.toNat≤90∨c.toNat=95):=by
 unfold isL
 simp
 omega
theorem isD_nat (c:UInt8):isD c=true↔(48≤c.toNat∧c.toNat≤57):=by
 unfold isD
 simp
theorem nameok25 (x:ByteArray) (w:World):Calls Tryz.prog 121 #[.string x] w fun e w'=>e = .returned (.bool (dc (Nmx x)))∧Below w.heap.size w w':=by
 obtain ⟨R,hR⟩:∃ R,R=dc (Nmx x):=⟨_,rfl⟩
 have HR:Hid (R=dc (Nmx x)):=hR
 rw [← hR]
 clear hR
 have hws:=spec_words25
 by_cases h0:x.size=0
 ·have HX:Hid (R=false):=(show R = _ from HR).trans (dc_f (fun g=>by have:=g.1;omega))
  have h0':((x.size:Int) == 0)=true:=by rw [h0];rfl
  clear HR hws h0
  go_enter Tryz.func121,Tryz.ntmps121
  go_wp2_with fail
  go_ret
  exact ⟨by rw [show R=false from HX];first | rfl | (simp [*];done),Below.refl _ _⟩
 have h0':((x.size:Int) == 0)=false:=by rw [beq_eq_false_iff_ne];omega
 rcases Nat.lt_or_ge 40 x.size with h4 | h4
 ·have HX:Hid (R=false):=(show R = _ from HR).trans (dc_f (fun g=>by have:=g.2.1;omega))
  have h4':(40:Int) < (x.size:Int):=by omega
  clear HR hws h4
  go_enter Tryz.func121,Tryz.ntmps121
  go_wp2_with fail
  go_ret
  exact ⟨by rw [show R=false from HX];first | rfl | (simp [*];done),Below.refl _ _⟩
 have h4':¬ (40:Int) < (x.size:Int):=by omega
 have hsI:(x.size:Int)≤40:=by omega
 have HS:Hid (0 < x.size∧x.size≤40):=(⟨by omega,h4⟩:_∧_)
 have HIX:Hid (∀ (i:Nat) (c:UInt8),x.data.toList[i]? = some c→∀ w,(Instr.index 9 (.string x) (.int .i64 (i:Int))).run Tryz.prog w = .ok (.int .u8 (c.toNat:Int)) w):=(fun i c hc w=>ix x x.data.toList rfl i c hc w:∀ (i:Nat) (c:UInt8),_)
 clear h0 h4
 go_enter Tryz.func121,Tryz.ntmps121
 go_wp2_with fail
 clear h0' h4'
 go_loopw [3] (fun s3 wr=>∃ i:Nat,s3 = .int .i64 (i:Int)∧i≤x.size∧wr=w∧Hid (∀ k,k < i→isL (lk x.data.toList k)=true∨(k ≠ 0∧isD (lk x.data.toList k)=true))) (fun s3 _=>x.size - (intOf s3).toNat)
 case atStart=>exact ⟨0,rfl,Nat.zero_le _,rfl,(fun k hk=>by omega:∀ k,_)⟩
 case round =>
  obtain ⟨i,rfl,hi,rfl,HI⟩:=hrel
  have hI:=(show ∀ k,k < i→isL (lk x.data.toList k)=true∨(k ≠ 0∧isD (lk x.data.toList k)=true) from HI)
  rcases Nat.lt_or_ge i x.size with hlt | hge
  ·have hiI:(i:Int) < (x.size:Int):=by omega
   have hxc:x.data.toList[i]? = some (lk x.data.toList i):=by
    have h1:i < x.data.toList.length:=by rw [sz_len];exact hlt
    rw [lk,List.getD_eq_getElem?_getD,List.getElem?_eq_getElem h1];rfl
   have hix:=(show ∀ (i:Nat) (c:UInt8),x.data.toList[i]? = some c→_ from HIX) i _ hxc
   have hL:=isL_nat (lk x.data.toList i)
   have hD:=isD_nat (lk x.data.toList i)
   have HGO:Hid ((isL (lk x.data.toList i)=true∨(i ≠ 0∧isD (lk x.data.toList i)=true))→∀ k,k < i+1→isL (lk x.data.toList k)=true∨(k ≠ 0∧isD (lk x.data.toList k)=true)):=(fun h k hk=>by
    by_cases e:k=i
    ·rw [e];exact h
    ·exact hI k (by omega):_→∀ k,_)
   have HNO:Hid (¬ (isL (lk x.data.toList i)=true∨(i ≠ 0∧isD (lk x.data.toList i)=true))→R=false):=(fun h=>(show R = _ from HR).trans (dc_f (fun g=>h (g.2.2.1 i hlt))):_→_)
   clear hI HI HIX hxc HR HS
   have hn1:((lk x.data.toList i).toNat:Int)≤255:=by have:=(lk x.data.toList i).toNat_lt;omega
   obtain ⟨n,hn⟩:∃ n:Int,((lk x.data.toList i).toNat:Int)=n:=⟨_,rfl⟩
   rw [hn] at hix hn1
   have hcs:(97≤n∧n≤122)∨(65≤n∧n≤90)∨(n=95)∨(n < 48)∨(48≤n∧n≤57)∨(58≤n∧n≤64)∨((91≤n∧n≤94)∨n=96)∨(122 < n):=by omega
   rcases hcs with hc | hc | hc | hc | hc | hc | hc | hc
   ·have u0:(97:Int)≤n:=by omega
    have u1:n≤122:=by omega
    have HN:Hid (∀ k,k < i+1→isL (lk x.data.toList k)=true∨(k ≠ 0∧isD (lk x.data.toList k)=true)):=HGO (.inl (hL.2 (by omega)))
    clear HGO HNO hL hD hn hc
    go_wp2_with fail
    go_roundw
    case rel=>exact ⟨i+1,by go_num,by omega,by first | rfl | trivial,HN⟩
    case measure=>simp [intOf];omega
   ·have u0:¬ (97:Int)≤n:=by omega
    have u1:(65:Int)≤n:=by omega
    have u2:n≤90:=by omega
    have HN:Hid (∀ k,k < i+1→isL (lk x.data.toList k)=true∨(k ≠ 0∧isD (lk x.data.toList k)=true)):=HGO (.inl (hL.2 (by omega)))
    clear HGO HNO hL hD hn hc
    go_wp2_with fail
    go_roundw
    case rel=>exact ⟨i+1,by go_num,by omega,by first | rfl | trivial,HN⟩
    case measure=>simp [intOf];omega
   ·have u0:¬ (97:Int)≤n:=by omega
    have u1:(65:Int)≤n:=by omega
    have u2:¬ n≤90:=by omega
    have u3:(n == 95)=true:=by rw [beq_iff_eq];omega
    have HN:Hid (∀ k,k < i+1→isL (lk x.data.toList k)=true∨(k ≠ 0∧isD (lk x.data.toList k)=true)):=HGO (.inl (hL.2 (by omega)))
    clear HGO HNO hL hD hn hc
    go_wp2_with fail
    go_roundw
    case rel=>exact ⟨i+1,by go_num,by omega,by first | rfl | trivial,HN⟩
    case measure=>simp [intOf];omega
   ·have u0:¬ (97:Int)≤n:=by omega
    have u1:¬ (65:Int)≤n:=by omega
    have u2:(n == 95)=false:=by rw [beq_eq_false_iff_ne];omega
    have u3:n < 48:=by omega
    have hnl:¬ isL (lk x.data.toList i)=true:=fun g=>by have:=hL.1 g;omega
    by_cases hz:i=0
    ·have HX:Hid (R=false):=HNO (fun g=>g.elim hnl (fun g=>g.1 hz))
     have hz':((i:Int) == 0)=true:=by rw [hz];rfl
     clear HGO HNO hL hD hn hc hnl hz
     go_wp2_with fail
     go_ret
     exact ⟨by rw [show R=false from HX];first | rfl | (simp [*];done),Below.refl _ _⟩
    ·have hz':((i:Int) == 0)=false:=by rw [beq_eq_false_iff_ne];omega
     have HX:Hid (R=false):=HNO (fun g=>g.elim hnl (fun g=>by have:=hD.1 g.2;omega))
     clear HGO HNO hL hD hn hc hnl hz
     go_wp2_with fail
     go_ret
     exact ⟨by rw [show R=false from HX];first | rfl | (simp [*];done),Below.refl _ _⟩
   ·have u0:¬ (97:Int)≤n:=by omega
    have u1:¬ (65:Int)≤n:=by omega
    have u2:(n == 95)=false:=by rw [beq_eq_false_iff_ne];omega
    have u3:¬ n < 48:=by omega
    have u4:¬ (57:Int) < n:=by omega
    have hnl:¬ isL (lk x.data.toList i)=true:=fun g=>by have:=hL.1 g;omega
    by_cases hz:i=0
    ·have HX:Hid (R=false):=HNO (fun g=>g.elim hnl (fun g=>g.1 hz))
     have hz':((i:Int) == 0)=true:=by rw [hz];rfl
     clear HGO HNO hL hD hn hc hnl hz
     go_wp2_with fail
     go_ret
     exact ⟨by rw [show R=false from HX];first | rfl | (simp [*];done),Below.refl _ _⟩
    ·have hz':((i:Int) == 0)=false:=by rw [beq_eq_false_iff_ne];omega
     have HN:Hid (∀ k,k < i+1→isL (lk x.data.toList k)=true∨(k ≠ 0∧isD (lk x.data.toList k)=true)):=HGO (.inr ⟨hz,hD.2 (by omega)⟩)
     clear HGO HNO hL hD hn hc hnl hz
     go_wp2_with fail
     go_roundw
     case rel=>exact ⟨i+1,by go_num,by omega,by first | rfl | trivial,HN⟩
     case measure=>simp [intOf];omega
   ·have u0:¬ (97:Int)≤n:=by omega
    have u1:¬ (65:Int)≤n:=by omega
    have u2:(n == 95)=false:=by rw [beq_eq_false_iff_ne];omega
    have u3:¬ n < 48:=by omega
    have u4:(57:Int) < n:=by omega
    have hnl:¬ isL (lk x.data.toList i)=true:=fun g=>by have:=hL.1 g;omega
    by_cases hz:i=0
    ·have HX:Hid (R=false):=HNO (fun g=>g.elim hnl (fun g=>g.1 hz))
     have hz':((i:Int) == 0)=true:=by rw [hz];rfl
     clear HGO HNO hL hD hn hc hnl hz
     go_wp2_with fail
     go_ret
     exact ⟨by rw [show R=false from HX];first | rfl | (simp [*];done),Below.refl _ _⟩
    ·have hz':((i:Int) == 0)=false:=by rw [beq_eq_false_iff_ne];omega
     have HX:Hid (R=false):=HNO (fun g=>g.elim hnl (fun g=>by have:=hD.1 g.2;omega))
     clear HGO HNO hL hD hn hc hnl hz
     go_wp2_with fail
     go_ret
     exact ⟨by rw [show R=false from HX];first | rfl | (simp [*];done),Below.refl _ _⟩
   ·have u0:¬ (97:Int)≤n:=by omega
    have u1:(65:Int)≤n:=by omega
    have u2:¬ n≤90:=by omega
    have u3:(n == 95)=false:=by rw [beq_eq_false_iff_ne];omega
    have u4:¬ n < 48:=by omega
    have u5:(57:Int) < n:=by omega
    have hnl:¬ isL (lk x.data.toList i)=true:=fun g=>by have:=hL.1 g;omega
    by_cases hz:i=0
    ·have HX:Hid (R=false):=HNO (fun g=>g.elim hnl (fun g=>g.1 hz))
     have hz':((i:Int) == 0)=true:=by rw [hz];rfl
     clear HGO HNO hL hD hn hc hnl hz
     go_wp2_with fail
     go_ret
     exact ⟨by rw [show R=false from HX];first | rfl | (simp [*];done),Below.refl _ _⟩
    ·have hz':((i:Int) == 0)=false:=by rw [beq_eq_false_iff_ne];omega
     have HX:Hid (R=false):=HNO (fun g=>g.elim hnl (fun g=>by have:=hD.1 g.2;omega))
     clear HGO HNO hL hD hn hc hnl hz
     go_wp2_with fail
     go_ret
     exact ⟨by rw [show R=false from HX];first | rfl | (simp [*];done),Below.refl _ _⟩
   ·have u0:(97:Int)≤n:=by omega
    have u1:¬ n≤122:=by omega
    have u2:(65:Int)≤n:=by omega
    have u3:¬ n≤90:=by omega
    have u4:(n == 95)=false:=by rw [beq_eq_false_iff_ne];omega
    have u5:¬ n < 48:=by omega
    have u6:(57:Int) < n:=by omega
    have hnl:¬ isL (lk x.data.toList i)=true:=fun g=>by have:=hL.1 g;omega
    by_cases hz:i=0
    ·have HX:Hid (R=false):=HNO (fun g=>g.elim hnl (fun g=>g.1 hz))
     have hz':((i:Int) == 0)=true:=by rw [hz];rfl
     clear HGO HNO hL hD hn hc hnl hz
     go_wp2_with fail
     go_ret
     exact ⟨by rw [show R=false from HX];first | rfl | (simp [*];done),Below.refl _ _⟩
    ·have hz':((i:Int) == 0)=false:=by rw [beq_eq_false_iff_ne];omega
     have HX:Hid (R=false):=HNO (fun g=>g.elim hnl (fun g=>by have:=hD.1 g.2;omega))
     clear HGO HNO hL hD hn hc hnl hz
     go_wp2_with fail
     go_ret
     exact ⟨by rw [show R=false from HX];first | rfl | (simp [*];done),Below.refl _ _⟩
  ·obtain rfl:i=x.size:=by omega
   have HA:Hid (∀ k,k < x.size→isL (lk x.data.toList k)=true∨(k ≠ 0∧isD (lk x.data.toList k)=true)):=hI
   clear HI hI hi HIX
   go_wp2_with fail
   refine (hws _).mono ?_
   rintro e w1 ⟨rfl,rfl⟩
   clear hws
   have HC:Hid (∀ j,j < 22→(wr.alloc (.cells wordsA 9)).cell? ⟨wr.heap.size,j,none⟩=some (.string (wordsB j))):=(fun j hj=>by
    rw [World.cell?_alloc_at _ _ _ _ rfl];exact words_get j hj:∀ j,_)
   have HB:Hid (Below wr.heap.size wr (wr.alloc (.cells wordsA 9))):=bel1 _ _
   obtain ⟨W,hW⟩:∃ W,W=wr.alloc (.cells wordsA 9):=⟨_,rfl⟩
   rw [← hW] at HC HB ⊢
   clear hW
   go_wp2_with fail
   go_loopw [59] (fun s59 wv=>∃ j:Nat,s59 = .int .i64 (j:Int)∧j≤22∧wv=W∧Hid (∀ k,k < j→((wordsB k).toList == x.toList)=false)) (fun s59 _=>22 - (intOf s59).toNat)
   case atStart=>exact ⟨0,rfl,Nat.zero_le _,rfl,(fun k hk=>by omega:∀ k,_)⟩
   case round =>
    obtain ⟨j,rfl,hj,rfl,HI⟩:=hrel
    have hI:=(show ∀ k,k < j→((wordsB k).toList == x.toList)=false from HI)
    rcases Nat.lt_or_ge j 22 with hlt | hge
    ·have hjI:(j:Int) < 22:=by omega
     have hc:=(show ∀ j,j < 22→_ from HC) j hlt
     cases he:((wordsB j).toList == x.toList) with
     | true =>
      have HX:Hid (R=false):=(show R = _ from HR).trans (dc_f (fun g=>by have:=g.2.2.2 j hlt;rw [he] at this;cases this))
      clear hI HI HR HA HS
      generalize wordsB j=S at *
      go_wp2_with fail
      go_ret
      exact ⟨by rw [show R=false from HX];first | rfl | (simp [*];done),HB⟩
     | false =>
      have HN:Hid (∀ k,k < j+1→((wordsB k).toList == x.toList)=false):=(fun k hk=>by
       by_cases e:k=j
       ·rw [e];exact he
       ·exact hI k (by omega):∀ k,_)
      clear hI HI
      generalize wordsB j=S at *
      go_wp2_with fail
      go_roundw
      case rel=>exact ⟨j+1,by go_num,by omega,by first | rfl | trivial,HN⟩
      case measure=>simp [intOf];omega
    ·obtain rfl:j=22:=by omega
     have HX:Hid (R=true):=(show R = _ from HR).trans (dc_t ⟨HS.1,HS.2,HA,hI⟩)
     clear hI HI HR HA HS HC
     go_wp2_with fail
     go_ret
     exact ⟨by rw [show R=true from HX];first | rfl | (simp [*];done),HB⟩
theorem same_bool {f:FuncId} {x:ByteArray} {z y:Bool} (w:World) (h1:Calls Tryz.prog f #[.string x] w fun e w'=>e = .returned (.bool z)∧Below w.heap.size w w') (h2:Calls Tryz.prog f #[.string x] w fun e w'=>e = .returned (.bool y)∧Below w.heap.size w w') (hi:Tryz.prog.inits.idxOf? f=none):z=y:=by
 obtain ⟨v,w',r1,r2⟩:=two_ends (R:=fun v _=>v = .bool z) (R':=fun v _=>v = .bool y) (h1.mono fun e w' ⟨he,_⟩=>by subst he;rfl) (h2.mono fun e w' ⟨he,_⟩=>by subst he;rfl) hi
 rw [r1] at r2
 exact Value.bool.inj r2
theorem en_all {L:List UInt8}:∀ (n k:Nat),k+n=L.length→(∀ j,k≤j→j < L.length→isW (lk L j)=true)→en isW L k=L.length:=by
 intro n
 induction n with
 | zero=>intro k hk _;rw [en_end (by omega)];omega
 | succ n ih =>
  intro k hk h
  have hx:L[k]? = some (lk L k):=lk_at (by omega)
  rw [en_step hx (h k (Nat.le_refl _) (by omega))]
  exact ih (k+1) (by omega) (fun j h1 h2=>h j (by omega) h2)
theorem dc_inj {p q:Prop} (h:dc p=dc q):p↔q:=by
 constructor
 ·intro hp
  rw [dc_t hp] at h
  exact Classical.byContradiction fun hq=>by rw [dc_f hq] at h;cases h
 ·intro hq
  rw [dc_t hq] at h
  exact Classical.byContradiction fun hp=>by rw [dc_f hp] at h;cases h
theorem nmp_nmx (w:World) (x:ByteArray):nmp x↔Nmx x:=by
 rcases Nat.lt_or_ge 40 x.size with h4 | h4
 ·exact ⟨fun h=>by have:=nm_40 w x h;omega,fun h=>by have:=h.2.1;omega⟩
 obtain ⟨L,hT⟩:∃ L,x.data.toList=L:=⟨_,rfl⟩
 have hs:x.size=L.length:=by rw [← hT,sz_len]
 obtain ⟨tk,htk⟩:=tk_any x L
 have hrd : 0 < L.length→∀ w,Calls Tryz.prog 130 #[.string x,.int .i64 0] w (NumP w (tk 0).kind 0 (tk 0).to (tk 0).num (tk 0).text):=fun h0 w=>tko_spec hT (by omega) htk 0 w h0
 have key:nmp x↔(0 < L.length∧isL (lk L 0)=true∧(tk 0).kind=1∧(tk 0).to=L.length):=by
  refine dc_inj (same_bool w (nm_s x w) (name_ok x L hT (by omega) (tk 0) hrd _ ?_ w) (by kernel_rfl))
  by_cases hc : 0 < L.length∧isL (lk L 0)=true∧(tk 0).kind=1∧(tk 0).to=L.length
  ·exact .inl ⟨hc.1,hc.2.1,hc.2.2.1,hc.2.2.2,dc_t hc⟩
  ·exact .inr ⟨hc,dc_f hc⟩
 rw [key]
 unfold Nmx
 rw [hT]
 constructor
 ·rintro ⟨h0,hl,hk,ht⟩
  have hko:=htk 0 h0
  generalize tk 0=t at *
  cases hko with
  | nl h=>rw [h] at hl;cases hl
  | word m h1 h2 =>
   dsimp only at hk ht
   have hm:m=22:=by
    have:=h2.1
    unfold wkI at hk
    split at hk <;> omega
   subst hm
   have hall:∀ j,j < L.length→isW (lk L j)=true:=fun j hj=>by
    obtain ⟨c,e1,e2⟩:=en_mid L.length 0 j (by rw [ht];omega) (by omega) (by omega)
    rw [lk_at hj] at e1
    rw [Option.some.inj e1];exact e2
   refine ⟨by omega,h4,fun k hk=>?_,fun j hj=>?_⟩
   ·by_cases e:k=0
    ·rw [e];exact .inl hl
    ·have:=hall k (by omega)
     unfold isW at this
     rw [Bool.or_eq_true] at this
     exact this.elim .inl (fun h=>.inr ⟨e,h⟩)
   ·have h3:=h2.2.1 j hj
    rw [ht,← hs,show x.extract 0 x.size=x by simp] at h3
    exact h3
  | num kd tn nu tx h1 _ _=>rw [isL_not h1] at hl;cases hl
  | hex ok tn n h1 _=>rw [h1.1] at hl;cases hl
  | str ok tn t h1 _=>rw [h1] at hl;cases hl
  | sign m kd tn _ h1 _ _ _ _=>rw [h1] at hl;cases hl
 ·rintro ⟨h0,_,ha,hw⟩
  have h0' : 0 < L.length:=by omega
  have hl:isL (lk L 0)=true:=(ha 0 h0).elim id (fun h=>absurd rfl h.1)
  refine ⟨h0',hl,?_⟩
  have hall:∀ j,0≤j→j < L.length→isW (lk L j)=true:=fun j _ hj=>by
   unfold isW
   rw [Bool.or_eq_true]
   exact (ha j (by omega)).elim .inl (fun h=>.inr h.2)
  have hen:=en_all L.length 0 (by omega) hall
  have hko:=htk 0 h0'
  generalize tk 0=t at *
  cases hko with
  | nl h=>rw [h] at hl;cases hl
  | word m h1 h2 =>
   dsimp only
   refine ⟨?_,hen⟩
   rw [hen,← hs,show x.extract 0 x.size=x by simp] at h2
   have hm:m=22:=by
    rcases h2.2.2 with h3 | h3
    ·exact h3
    ·rcases Nat.lt_or_ge m 22 with h5 | h5
     ·rw [hw m h5] at h3;cases h3
     ·have:=h2.1;omega
   subst hm
   rfl
  | num kd tn nu tx h1 _ _=>rw [isL_not h1] at hl;cases hl
  | hex ok tn n h1 _=>rw [h1.1] at hl;cases hl
  | str ok tn t h1 _=>rw [h1] at hl;cases hl
  | sign m kd tn _ h1 _ _ _ _=>rw [h1] at hl;cases hl
theorem nm_25 (w0:World):NmS nmp:=fun x w=>by
 rw [show dc (nmp x)=dc (Nmx x) from dc_iff (nmp_nmx w0 x)]
 exact nameok25 x w
end Go.Proofs.YtomcmnompajnlaaGreatDoor.Fo.Po
