import Derived.Test.YtkhdehngobkkfaaGreatDoorASpb
set_option maxRecDepth 100000
set_option maxHeartbeats 40000000
namespace Go.Proofs.YtkhdehngobkkfaaGreatDoor.Fo
open Go.ChangeShapes Go.WideShapes Go.ChangeAt Go.RowKit
set_option linter.unusedVariables false
variable {W W' w a:World}{b n p q:Nat}{nm fl:ByteArray->Prop}{x:ByteArray}{F:Nat->Gv}{A:Nat->ByteArray}{K:Nat->Int}{v vn vk:Value}
theorem im_rowe(a:Fv)(vn:Value)(pk:Option Addr)(q ck:Nat)(h:20<=a.k/\a.k<=37)(hq:q<=1048576)(w:World):Calls Tryz.prog 212 #[fmv a vn (.slice pk q ck)] w λe w'=>e=.returned (rwv (rwk a.k q))/\Below w.heap.size w w':=by
 obtain⟨k,f,t,l,o,m,x⟩:=a
 have h':k=20\/k=21\/k=22\/k=23\/k=24\/k=25\/k=26\/k=27\/k=28\/k=29\/k=30\/k=31\/k=32\/k=33\/k=34\/k=35\/k=36\/k=37:=by
  have h1:20<=k:=h.1;have h2:k<=37:=h.2;omega
 have hqI:(q:Int)<=1048576:=by omega
 clear h hq;obtain⟨W2,hW2,HB,HZ⟩:=nw9 w (.cells #[.int .i64 k,.int .i64 f,.int .i64 t,.int .i64 l,.int .i64 o,.int .i64 m,.string x,vn,.slice pk q ck] 154) 134;unfold fmv;rcases h' with rfl|rfl|rfl|rfl|rfl|rfl|rfl|rfl|rfl|rfl|rfl|rfl|rfl|rfl|rfl|rfl|rfl|rfl
 all_goals
  simp only[rwk,rwv,Int.reduceToNat];go_enter Tryz.func212,Tryz.ntmps212;go_wp2_with fail
  first
   |go_returns
    exact⟨rfl,by go_grown⟩
   |rw[<-hW2]
    clear hW2;refine(im_just _ W2).mono ?_;rintro e V0 ⟨rfl,b0⟩;replace HB:=(show Hid _ from(uh HB).trans (b0.mono (uh HB).size))
    replace HZ:=(show Hid (Zr V0 (w.heap.size+1))from Zr.below HZ.out b0)
    clear b0
    try
     go_wp2_with fail;refine(im_just _ V0).mono ?_;rintro e V1 ⟨rfl,b0⟩;replace HB:=(show Hid _ from(uh HB).trans (b0.mono (uh HB).size))
     replace HZ:=(show Hid (Zr V1 (w.heap.size+1))from Zr.below HZ.out b0)
     clear b0
    have hz:=HZ.out;obtain⟨⟨c0,c1,c2,c3,c4,c5,c6,c7,c8⟩,⟨z0,z1,z2,z3,z4,z5,z6,z7,z8⟩⟩:=hz;go_wp2_with fail;have HP:=λx0 x1 x2 x3 x4 x5 x6 x7 x8=>Zr.put HZ.out x0 x1 x2 x3 x4 x5 x6 x7 x8 _ rfl;refine bodyPost_ret (by simp[results,Tryz.results212,go_sem,HP];try rfl) rfl ?_;exact⟨rfl,pt9 HB.out _ (by omega) _ _ _ _ _ _ _ _ _⟩
theorem im_rowt(a:Fv)(vn:Value)(pk:Option Addr)(q ck:Nat)(h:40<=a.k/\a.k<=42)(hq:q<=1048576)(w:World):Calls Tryz.prog 214 #[fmv a vn (.slice pk q ck)] w λe w'=>e=.returned (rwv (rwk a.k q))/\Below w.heap.size w w':=by
 obtain⟨k,f,t,l,o,m,x⟩:=a
 have h':k=40\/k=41\/k=42:=by
  have h1:40<=k:=h.1;have h2:k<=42:=h.2;omega
 have hqI:(q:Int)<=1048576:=by omega
 clear h hq;obtain⟨W2,hW2,HB,HZ⟩:=nw9 w (.cells #[.int .i64 k,.int .i64 f,.int .i64 t,.int .i64 l,.int .i64 o,.int .i64 m,.string x,vn,.slice pk q ck] 155) 134;unfold fmv;rcases h' with rfl|rfl|rfl
 all_goals
  simp only[rwk,rwv,Int.reduceToNat];go_enter Tryz.func214,Tryz.ntmps214;go_wp2_with fail
  first
   |go_returns
    exact⟨rfl,by go_grown⟩
   |rw[<-hW2]
    clear hW2;refine(im_just _ W2).mono ?_;rintro e V0 ⟨rfl,b0⟩;replace HB:=(show Hid _ from(uh HB).trans (b0.mono (uh HB).size))
    replace HZ:=(show Hid (Zr V0 (w.heap.size+1))from Zr.below HZ.out b0)
    clear b0
    try
     go_wp2_with fail;refine(im_just _ V0).mono ?_;rintro e V1 ⟨rfl,b0⟩;replace HB:=(show Hid _ from(uh HB).trans (b0.mono (uh HB).size))
     replace HZ:=(show Hid (Zr V1 (w.heap.size+1))from Zr.below HZ.out b0)
     clear b0
    have hz:=HZ.out;obtain⟨⟨c0,c1,c2,c3,c4,c5,c6,c7,c8⟩,⟨z0,z1,z2,z3,z4,z5,z6,z7,z8⟩⟩:=hz;go_wp2_with fail;have HP:=λx0 x1 x2 x3 x4 x5 x6 x7 x8=>Zr.put HZ.out x0 x1 x2 x3 x4 x5 x6 x7 x8 _ rfl;refine bodyPost_ret (by simp[results,Tryz.results214,go_sem,HP];try rfl) rfl ?_;exact⟨rfl,pt9 HB.out _ (by omega) _ _ _ _ _ _ _ _ _⟩
