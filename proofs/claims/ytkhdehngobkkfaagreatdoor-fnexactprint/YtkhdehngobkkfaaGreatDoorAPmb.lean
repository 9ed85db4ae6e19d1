import Derived.Test.YtkhdehngobkkfaaGreatDoorAPma
set_option maxHeartbeats 16000000
namespace Go.Proofs.YtkhdehngobkkfaaGreatDoor.Fo
open Go.ChangeShapes Go.WideShapes Go.ChangeAt Go.RowKit
set_option linter.unusedVariables false
set_option maxRecDepth 100000
variable {w:World}{b t n i cf m p q cn ck:Nat}{cd:Addr}{F:Nat->Gv}{X Y:List UInt8}{ts:Nat->List UInt8}{a:Fv}{pn pk:Option Addr}
theorem mw_1(A:Am w n cf cd F i)(hk:Hid ((F i).a.k=1))(H:Hid (W1 w b cd n cf t 22 (.int .i64 i) (X))):W1 w b cd n cf t 11 (.int .i64 i) (X):=by
 intro l W h hl;obtain⟨pn,cn,pk,ck,V,g,hV,hg,HF1,c0,⟨d0,d1,d2,d3,d4,d5,d6,d7,d8⟩,hi,hn⟩:=Fw.open h hl A;clear h hl A;go_enter Tryz.func11,Tryz.ntmps11;go_upto_region 1 with fail
 try rw[hV]
 try rw[hg]
 clear hV hg c0 d0 d1 d2 d3 d4 d5 d6 d7 d8 hi hn;obtain⟨c0,c1,c2,c3,c4,c5,c6,c7,c8⟩:=Fw.cs HF1;rw[un hk]at c0;have HC:=Fw.step HF1 (un H) px0;go_wp2_with fail;refine HC.mono ?_;rintro e y1 ⟨rfl,HF2⟩;clear HC HF1 c0 c1 c2 c3 c4 c5 c6 c7 c8;go_wp2_with fail;exact⟨rfl,.tuple #[],by simp[results,Tryz.results11],rfl,Fw.done HF2 rfl⟩
theorem mw_2a(A:Am w n cf cd F i)(hk:Hid ((F i).a.k=2))(hp:Hid ((F i).p<=200))(hq:Hid ((F i).q=0)):W1 w b cd n cf t 11 (.int .i64 i) ([108,101,116,32]++nms (F i)):=by
 intro l W h hl;obtain⟨pn,cn,pk,ck,V,g,hV,hg,HF1,c0,⟨d0,d1,d2,d3,d4,d5,d6,d7,d8⟩,hi,hn⟩:=Fw.open h hl A;clear h hl A;go_enter Tryz.func11,Tryz.ntmps11;go_upto_region 1 with fail
 try rw[hV]
 try rw[hg]
 clear hV hg c0 d0 d1 d2 d3 d4 d5 d6 d7 d8 hi hn;obtain⟨c0,c1,c2,c3,c4,c5,c6,c7,c8⟩:=Fw.cs HF1;rw[un hk]at c0;have HC:=Fw.say HF1 ⟨#[108,101,116,32]⟩ px1;go_wp2_with fail;refine HC.mono ?_;rintro e y1 ⟨rfl,HF2⟩;clear HC HF1 c0 c1 c2 c3 c4 c5 c6 c7 c8;obtain⟨c0,c1,c2,c3,c4,c5,c6,c7,c8⟩:=Fw.cs HF2;have HC:=Fw.nms HF2 (by have:=un hp;omega) px0;go_wp2_with fail;refine HC.mono ?_;rintro e y2 ⟨rfl,HF3⟩;clear HC HF2 c0 c1 c2 c3 c4 c5 c6 c7 c8;obtain⟨c0,c1,c2,c3,c4,c5,c6,c7,c8⟩:=Fw.cs HF3;rw[un hq]at c8;go_wp2_with fail;exact⟨rfl,.tuple #[],by simp[results,Tryz.results11],rfl,Fw.done HF3 rfl⟩
theorem mw_2b(A:Am w n cf cd F i)(hk:Hid ((F i).a.k=2))(hp:Hid ((F i).p<=200))(hq:Hid (0<(F i).q))(H:Hid (WL w b cd n cf t (F i).K ((F i).q) ts)):W1 w b cd n cf t 11 (.int .i64 i) ([108,101,116,32]++nms (F i)++[32,61,32]++cmj ts (F i).q):=by
 intro l W h hl;obtain⟨pn,cn,pk,ck,V,g,hV,hg,HF1,c0,⟨d0,d1,d2,d3,d4,d5,d6,d7,d8⟩,hi,hn⟩:=Fw.open h hl A;clear h hl A;go_enter Tryz.func11,Tryz.ntmps11;go_upto_region 1 with fail
 try rw[hV]
 try rw[hg]
 clear hV hg c0 d0 d1 d2 d3 d4 d5 d6 d7 d8 hi hn;obtain⟨c0,c1,c2,c3,c4,c5,c6,c7,c8⟩:=Fw.cs HF1;rw[un hk]at c0;have HC:=Fw.say HF1 ⟨#[108,101,116,32]⟩ px3;go_wp2_with fail;refine HC.mono ?_;rintro e y1 ⟨rfl,HF2⟩;clear HC HF1 c0 c1 c2 c3 c4 c5 c6 c7 c8;obtain⟨c0,c1,c2,c3,c4,c5,c6,c7,c8⟩:=Fw.cs HF2;have HC:=Fw.nms HF2 (by have:=un hp;omega) px2;go_wp2_with fail;refine HC.mono ?_;rintro e y2 ⟨rfl,HF3⟩;clear HC HF2 c0 c1 c2 c3 c4 c5 c6 c7 c8;obtain⟨c0,c1,c2,c3,c4,c5,c6,c7,c8⟩:=Fw.cs HF3;have hq0:(0:Int)<((F i).q:Int):=by have:=un hq;omega
 have HC:=Fw.say HF3 ⟨#[32,61,32]⟩ px1;go_wp2_with fail;refine HC.mono ?_;rintro e y3 ⟨rfl,HF4⟩;clear HC HF3 c0 c1 c2 c3 c4 c5 c6 c7 c8;obtain⟨c0,c1,c2,c3,c4,c5,c6,c7,c8⟩:=Fw.cs HF4;have HC:=Fw.xs HF4 H px0;go_wp2_with fail;refine HC.mono ?_;rintro e y4 ⟨rfl,HF5⟩;clear HC HF4 c0 c1 c2 c3 c4 c5 c6 c7 c8 hq0;go_wp2_with fail;exact⟨rfl,.tuple #[],by simp[results,Tryz.results11],rfl,Fw.done HF5 rfl⟩
theorem mw_3(A:Am w n cf cd F i)(hk:Hid ((F i).a.k=3))(hp:Hid ((F i).p=1/\((F i).A 0).size<=4000))(hq:Hid ((F i).q=1))(H:Hid (W2 w b cd n cf t 25 (.int .i64 ((F i).K 0)) (.int .i64 0) (X))):W1 w b cd n cf t 11 (.int .i64 i) (([99,111,110,115,116,32]++byt ((F i).A 0)++[32,61,32])++X):=by
 intro l W h hl;obtain⟨pn,cn,pk,ck,V,g,hV,hg,HF1,c0,⟨d0,d1,d2,d3,d4,d5,d6,d7,d8⟩,hi,hn⟩:=Fw.open h hl A;clear h hl A;go_enter Tryz.func11,Tryz.ntmps11;go_upto_region 1 with fail
 try rw[hV]
 try rw[hg]
 clear hV hg c0 d0 d1 d2 d3 d4 d5 d6 d7 d8 hi hn;obtain⟨c0,c1,c2,c3,c4,c5,c6,c7,c8⟩:=Fw.cs HF1;rw[un hk]at c0;obtain⟨an,e1,hcn,n0⟩:=Fw.nam HF1 (j:=0) (by have:=(un hp).1;omega);subst e1;rw[add_z]at n0;have m0:(0:Int)<((F i).p:Int):=by have:=(un hp).1;omega
 obtain⟨z1,z2⟩:=cat3 (un hp).2 6 3 (by decide) (by decide);have HC:=Fw.say HF1 (⟨#[99,111,110,115,116,32]⟩++(F i).A 0++⟨#[32,61,32]⟩) px1;go_wp2_with fail;refine HC.mono ?_;rintro e y1 ⟨rfl,HF2⟩;clear HC HF1 c0 c1 c2 c3 c4 c5 c6 c7 c8 n0 m0 z1 z2;obtain⟨ad,e1,hck,k0⟩:=Fw.kid HF2 (j:=0) (by have:=un hq;omega);subst e1;rw[add_z]at k0;have j0:(0:Int)<((F i).q:Int):=by have:=un hq;omega
 obtain⟨c0,c1,c2,c3,c4,c5,c6,c7,c8⟩:=Fw.cs HF2;have HC:=Fw.step HF2 (un H) px0;go_wp2_with fail;refine HC.mono ?_;rintro e y2 ⟨rfl,HF3⟩;clear HC HF2 c0 c1 c2 c3 c4 c5 c6 c7 c8 k0 j0;go_wp2_with fail;exact⟨rfl,.tuple #[],by simp[results,Tryz.results11],rfl,Fw.done HF3 rfl⟩
theorem mw_4(A:Am w n cf cd F i)(hk:Hid ((F i).a.k=4))(hp:Hid ((F i).p=1/\((F i).A 0).size<=4000))(hq:Hid ((F i).q=1))(H:Hid (W1 w b cd n cf t 26 (.int .i64 ((F i).K 0)) (X))):W1 w b cd n cf t 11 (.int .i64 i) (([102,110,32]++byt ((F i).A 0))++X):=by
 intro l W h hl;obtain⟨pn,cn,pk,ck,V,g,hV,hg,HF1,c0,⟨d0,d1,d2,d3,d4,d5,d6,d7,d8⟩,hi,hn⟩:=Fw.open h hl A;clear h hl A;go_enter Tryz.func11,Tryz.ntmps11;go_upto_region 1 with fail
 try rw[hV]
 try rw[hg]
 clear hV hg c0 d0 d1 d2 d3 d4 d5 d6 d7 d8 hi hn;obtain⟨c0,c1,c2,c3,c4,c5,c6,c7,c8⟩:=Fw.cs HF1;rw[un hk]at c0;obtain⟨an,e1,hcn,n0⟩:=Fw.nam HF1 (j:=0) (by have:=(un hp).1;omega);subst e1;rw[add_z]at n0;have m0:(0:Int)<((F i).p:Int):=by have:=(un hp).1;omega
 obtain⟨z1,z2⟩:=cat3 (un hp).2 3 3 (by decide) (by decide);have HC:=Fw.say HF1 (⟨#[102,110,32]⟩++(F i).A 0) px1;go_wp2_with fail;refine HC.mono ?_;rintro e y1 ⟨rfl,HF2⟩;clear HC HF1 c0 c1 c2 c3 c4 c5 c6 c7 c8 n0 m0 z1 z2;obtain⟨ad,e1,hck,k0⟩:=Fw.kid HF2 (j:=0) (by have:=un hq;omega);subst e1;rw[add_z]at k0;have j0:(0:Int)<((F i).q:Int):=by have:=un hq;omega
 obtain⟨c0,c1,c2,c3,c4,c5,c6,c7,c8⟩:=Fw.cs HF2;have HC:=Fw.step HF2 (un H) px0;go_wp2_with fail;refine HC.mono ?_;rintro e y2 ⟨rfl,HF3⟩;clear HC HF2 c0 c1 c2 c3 c4 c5 c6 c7 c8 k0 j0;go_wp2_with fail;exact⟨rfl,.tuple #[],by simp[results,Tryz.results11],rfl,Fw.done HF3 rfl⟩
theorem mw_5(A:Am w n cf cd F i)(hk:Hid ((F i).a.k=5)){us:Nat->List UInt8}(hm:Hid ((F i).a.m=(m:Int)/\1<=m/\m<(F i).q))(H:Hid (WL w b cd n cf t (F i).K (m) ts))(H2:Hid (WL w b cd n cf t (λj=>(F i).K (m+j)) ((F i).q-m) us)):W1 w b cd n cf t 11 (.int .i64 i) (cmj ts m++[32,61,32]++cmj us ((F i).q-m)):=by
 intro l W h hl;obtain⟨pn,cn,pk,ck,V,g,hV,hg,HF1,c0,⟨d0,d1,d2,d3,d4,d5,d6,d7,d8⟩,hi,hn⟩:=Fw.open h hl A;clear h hl A;go_enter Tryz.func11,Tryz.ntmps11;go_upto_region 1 with fail
 try rw[hV]
 try rw[hg]
 clear hV hg c0 d0 d1 d2 d3 d4 d5 d6 d7 d8 hi hn;obtain⟨c0,c1,c2,c3,c4,c5,c6,c7,c8⟩:=Fw.cs HF1;rw[un hk]at c0;obtain⟨pa,ca,hs,HR⟩:=sl_to (un HF1).rk (m:=m) (by have:=un hm;omega) (by have:=un hm;omega) (un hm).1;replace HR:Hid _:=HR;have HC:=Fw.step HF1 ((un H).go (un HR)) px2;go_wp2_with fail;refine HC.mono ?_;rintro e y1 ⟨rfl,HF2⟩;clear HC HF1 c0 c1 c2 c3 c4 c5 c6 c7 c8 hs HR;obtain⟨c0,c1,c2,c3,c4,c5,c6,c7,c8⟩:=Fw.cs HF2;have HC:=Fw.say HF2 ⟨#[32,61,32]⟩ px1;go_wp2_with fail;refine HC.mono ?_;rintro e y2 ⟨rfl,HF3⟩;clear HC HF2 c0 c1 c2 c3 c4 c5 c6 c7 c8;obtain⟨pa,ca,hs,HR⟩:=sl_from (un HF3).rk (m:=m) (by have:=un hm;omega) (un hm).1;replace HR:Hid _:=HR;obtain⟨c0,c1,c2,c3,c4,c5,c6,c7,c8⟩:=Fw.cs HF3;have HC:=Fw.step HF3 ((un H2).go (un HR)) px0;go_wp2_with fail;refine HC.mono ?_;rintro e y3 ⟨rfl,HF4⟩;clear HC HF3 c0 c1 c2 c3 c4 c5 c6 c7 c8 hs HR;go_wp2_with fail;exact⟨rfl,.tuple #[],by simp[results,Tryz.results11],rfl,Fw.done HF4 rfl⟩
theorem mw_6(A:Am w n cf cd F i)(hk:Hid ((F i).a.k=6))(hq:Hid ((F i).q=1))(H:Hid (W2 w b cd n cf t 25 (.int .i64 ((F i).K 0)) (.int .i64 0) (X))):W1 w b cd n cf t 11 (.int .i64 i) (X):=by
 intro l W h hl;obtain⟨pn,cn,pk,ck,V,g,hV,hg,HF1,c0,⟨d0,d1,d2,d3,d4,d5,d6,d7,d8⟩,hi,hn⟩:=Fw.open h hl A;clear h hl A;go_enter Tryz.func11,Tryz.ntmps11;go_upto_region 1 with fail
 try rw[hV]
 try rw[hg]
 clear hV hg c0 d0 d1 d2 d3 d4 d5 d6 d7 d8 hi hn;obtain⟨c0,c1,c2,c3,c4,c5,c6,c7,c8⟩:=Fw.cs HF1;rw[un hk]at c0;obtain⟨ad,e1,hck,k0⟩:=Fw.kid HF1 (j:=0) (by have:=un hq;omega);subst e1;rw[add_z]at k0;have j0:(0:Int)<((F i).q:Int):=by have:=un hq;omega
 have HC:=Fw.step HF1 (un H) px0;go_wp2_with fail;refine HC.mono ?_;rintro e y1 ⟨rfl,HF2⟩;clear HC HF1 c0 c1 c2 c3 c4 c5 c6 c7 c8 k0 j0;go_wp2_with fail;exact⟨rfl,.tuple #[],by simp[results,Tryz.results11],rfl,Fw.done HF2 rfl⟩
theorem mw_7(A:Am w n cf cd F i)(hk:Hid ((F i).a.k=7))(H:Hid (∀pn cn pk ck,RowV w (.slice pn (F i).p cn) (F i).p (λj=>.string ((F i).A j))->RowV w (.slice pk (F i).q ck) (F i).q (λj=>.int .i64 ((F i).K j))->Cw w b (.slice (some cd) n cf) t 27 #[.pointer (some ⟨b,0,none⟩),fmv (F i).a (.slice pn (F i).p cn) (.slice pk (F i).q ck),.string ⟨#[105,102,32]⟩] (X))):W1 w b cd n cf t 11 (.int .i64 i) (X):=by
 intro l W h hl;obtain⟨pn,cn,pk,ck,V,g,hV,hg,HF1,c0,⟨d0,d1,d2,d3,d4,d5,d6,d7,d8⟩,hi,hn⟩:=Fw.open h hl A;clear h hl A;go_enter Tryz.func11,Tryz.ntmps11;go_upto_region 1 with fail
 try rw[hV]
 try rw[hg]
 clear hV hg c0 d0 d1 d2 d3 d4 d5 d6 d7 d8 hi hn;obtain⟨c0,c1,c2,c3,c4,c5,c6,c7,c8⟩:=Fw.cs HF1;rw[un hk]at c0;have HC:=Fw.step HF1 ((un H) _ _ _ _ (un HF1).rn (un HF1).rk) px0;unfold fmv at HC
 try rw[un hk]at HC
 go_wp2_with fail;refine HC.mono ?_;rintro e y1 ⟨rfl,HF2⟩;clear HC HF1 c0 c1 c2 c3 c4 c5 c6 c7 c8;go_wp2_with fail;exact⟨rfl,.tuple #[],by simp[results,Tryz.results11],rfl,Fw.done HF2 rfl⟩
theorem mw_8(A:Am w n cf cd F i)(hk:Hid ((F i).a.k=8))(hq:Hid ((F i).q=2))(HX:Hid (W2 w b cd n cf t 25 (.int .i64 ((F i).K 0)) (.int .i64 0) (X)))(HY:Hid (W1 w b cd n cf t 22 (.int .i64 ((F i).K 1)) (Y))):W1 w b cd n cf t 11 (.int .i64 i) ([119,104,105,108,101,32]++X++[32]++Y):=by
 intro l W h hl;obtain⟨pn,cn,pk,ck,V,g,hV,hg,HF1,c0,⟨d0,d1,d2,d3,d4,d5,d6,d7,d8⟩,hi,hn⟩:=Fw.open h hl A;clear h hl A;go_enter Tryz.func11,Tryz.ntmps11;go_upto_region 1 with fail
 try rw[hV]
 try rw[hg]
 clear hV hg c0 d0 d1 d2 d3 d4 d5 d6 d7 d8 hi hn;obtain⟨c0,c1,c2,c3,c4,c5,c6,c7,c8⟩:=Fw.cs HF1;rw[un hk]at c0;have HC:=Fw.say HF1 ⟨#[119,104,105,108,101,32]⟩ px3;go_wp2_with fail;refine HC.mono ?_;rintro e y1 ⟨rfl,HF2⟩;clear HC HF1 c0 c1 c2 c3 c4 c5 c6 c7 c8;obtain⟨ad,e1,hck,k0⟩:=Fw.kid HF2 (j:=0) (by have:=un hq;omega);subst e1;rw[add_z]at k0;have j0:(0:Int)<((F i).q:Int):=by have:=un hq;omega
 obtain⟨c0,c1,c2,c3,c4,c5,c6,c7,c8⟩:=Fw.cs HF2;have HC:=Fw.step HF2 (un HX) px2;go_wp2_with fail;refine HC.mono ?_;rintro e y2 ⟨rfl,HF3⟩;clear HC HF2 c0 c1 c2 c3 c4 c5 c6 c7 c8 k0 j0;obtain⟨c0,c1,c2,c3,c4,c5,c6,c7,c8⟩:=Fw.cs HF3;have HC:=Fw.say HF3 ⟨#[32]⟩ px1;go_wp2_with fail;refine HC.mono ?_;rintro e y3 ⟨rfl,HF4⟩;clear HC HF3 c0 c1 c2 c3 c4 c5 c6 c7 c8;obtain⟨_,e1,-,k1⟩:=Fw.kid HF4 (j:=1) (by have:=un hq;omega);obtain rfl:=Option.some.inj e1;replace k1:World.cell? _ ⟨ad.block,ad.off+1,none⟩=_:=k1;have j1:((1:Nat):Int)<((F i).q:Int):=by have:=un hq;omega
 obtain⟨c0,c1,c2,c3,c4,c5,c6,c7,c8⟩:=Fw.cs HF4;have HC:=Fw.step HF4 (un HY) px0;go_wp2_with fail;refine HC.mono ?_;rintro e y4 ⟨rfl,HF5⟩;clear HC HF4 c0 c1 c2 c3 c4 c5 c6 c7 c8 k1 j1;go_wp2_with fail;exact⟨rfl,.tuple #[],by simp[results,Tryz.results11],rfl,Fw.done HF5 rfl⟩
theorem mw_9(A:Am w n cf cd F i)(hk:Hid ((F i).a.k=9))(hp:Hid ((F i).p<=200))(hq:Hid ((F i).q=m+1))(H:Hid (WL w b cd n cf t (F i).K (m) ts))(HB:Hid (W1 w b cd n cf t 22 (.int .i64 ((F i).K m)) (Y))):W1 w b cd n cf t 11 (.int .i64 i) ([102,111,114,32]++nms (F i)++[32,61,32]++cmj ts m++[32]++Y):=by
 intro l W h hl;obtain⟨pn,cn,pk,ck,V,g,hV,hg,HF1,c0,⟨d0,d1,d2,d3,d4,d5,d6,d7,d8⟩,hi,hn⟩:=Fw.open h hl A;clear h hl A;go_enter Tryz.func11,Tryz.ntmps11;go_upto_region 1 with fail
 try rw[hV]
 try rw[hg]
 clear hV hg c0 d0 d1 d2 d3 d4 d5 d6 d7 d8 hi hn;obtain⟨c0,c1,c2,c3,c4,c5,c6,c7,c8⟩:=Fw.cs HF1;rw[un hk]at c0;have HC:=Fw.say HF1 ⟨#[102,111,114,32]⟩ px5;go_wp2_with fail;refine HC.mono ?_;rintro e y1 ⟨rfl,HF2⟩;clear HC HF1 c0 c1 c2 c3 c4 c5 c6 c7 c8;obtain⟨c0,c1,c2,c3,c4,c5,c6,c7,c8⟩:=Fw.cs HF2;have HC:=Fw.nms HF2 (by have:=un hp;omega) px4;go_wp2_with fail;refine HC.mono ?_;rintro e y2 ⟨rfl,HF3⟩;clear HC HF2 c0 c1 c2 c3 c4 c5 c6 c7 c8;obtain⟨c0,c1,c2,c3,c4,c5,c6,c7,c8⟩:=Fw.cs HF3;rw[un hk]at c0;have HC:=Fw.say HF3 ⟨#[32,61,32]⟩ px3;go_wp2_with fail;refine HC.mono ?_;rintro e y3 ⟨rfl,HF4⟩;clear HC HF3 c0 c1 c2 c3 c4 c5 c6 c7 c8;obtain⟨pa,ca,hs,HR⟩:=sl_to (un HF4).rk (m:=m) (by have:=un hq;omega) (by have:=un hq;omega) (rfl:(m:Int)=_);replace HR:Hid _:=HR;have hov:IntKind.i64.wrap (((F i).q:Int)-1)=(m:Int):=by have h1:=un hq;have h2:=(un H).1;rw[IntKind.wrap_i64];omega
 obtain⟨c0,c1,c2,c3,c4,c5,c6,c7,c8⟩:=Fw.cs HF4;have HC:=Fw.step HF4 ((un H).go (un HR)) px2;go_wp2_with fail;refine HC.mono ?_;rintro e y4 ⟨rfl,HF5⟩;clear HC HF4 c0 c1 c2 c3 c4 c5 c6 c7 c8 hs HR;obtain⟨c0,c1,c2,c3,c4,c5,c6,c7,c8⟩:=Fw.cs HF5;have HC:=Fw.say HF5 ⟨#[32]⟩ px1;go_wp2_with fail;refine HC.mono ?_;rintro e y5 ⟨rfl,HF6⟩;clear HC HF5 c0 c1 c2 c3 c4 c5 c6 c7 c8;obtain⟨ad,e1,hck,k0⟩:=Fw.kid HF6 (j:=m) (by have:=un hq;omega);subst e1;have j0:(m:Int)<((F i).q:Int):=by have:=un hq;omega
 obtain⟨c0,c1,c2,c3,c4,c5,c6,c7,c8⟩:=Fw.cs HF6;have HC:=Fw.step HF6 (un HB) px0;go_wp2_with fail;refine HC.mono ?_;rintro e y6 ⟨rfl,HF7⟩;clear HC HF6 c0 c1 c2 c3 c4 c5 c6 c7 c8 k0 j0;go_wp2_with fail;exact⟨rfl,.tuple #[],by simp[results,Tryz.results11],rfl,Fw.done HF7 rfl⟩
theorem mw_10(A:Am w n cf cd F i)(hk:Hid ((F i).a.k=10))(hp:Hid ((F i).p<=200))(hq:Hid ((F i).q=m+1))(H:Hid (WL w b cd n cf t (F i).K (m) ts))(HB:Hid (W1 w b cd n cf t 22 (.int .i64 ((F i).K m)) (Y))):W1 w b cd n cf t 11 (.int .i64 i) ([102,111,114,32]++nms (F i)++[32,105,110,32]++cmj ts m++[32]++Y):=by
 intro l W h hl;obtain⟨pn,cn,pk,ck,V,g,hV,hg,HF1,c0,⟨d0,d1,d2,d3,d4,d5,d6,d7,d8⟩,hi,hn⟩:=Fw.open h hl A;clear h hl A;go_enter Tryz.func11,Tryz.ntmps11;go_upto_region 1 with fail
 try rw[hV]
 try rw[hg]
 clear hV hg c0 d0 d1 d2 d3 d4 d5 d6 d7 d8 hi hn;obtain⟨c0,c1,c2,c3,c4,c5,c6,c7,c8⟩:=Fw.cs HF1;rw[un hk]at c0;have HC:=Fw.say HF1 ⟨#[102,111,114,32]⟩ px5;go_wp2_with fail;refine HC.mono ?_;rintro e y1 ⟨rfl,HF2⟩;clear HC HF1 c0 c1 c2 c3 c4 c5 c6 c7 c8;obtain⟨c0,c1,c2,c3,c4,c5,c6,c7,c8⟩:=Fw.cs HF2;have HC:=Fw.nms HF2 (by have:=un hp;omega) px4;go_wp2_with fail;refine HC.mono ?_;rintro e y2 ⟨rfl,HF3⟩;clear HC HF2 c0 c1 c2 c3 c4 c5 c6 c7 c8;obtain⟨c0,c1,c2,c3,c4,c5,c6,c7,c8⟩:=Fw.cs HF3;rw[un hk]at c0;have HC:=Fw.say HF3 ⟨#[32,105,110,32]⟩ px3;go_wp2_with fail;refine HC.mono ?_;rintro e y3 ⟨rfl,HF4⟩;clear HC HF3 c0 c1 c2 c3 c4 c5 c6 c7 c8;obtain⟨pa,ca,hs,HR⟩:=sl_to (un HF4).rk (m:=m) (by have:=un hq;omega) (by have:=un hq;omega) (rfl:(m:Int)=_);replace HR:Hid _:=HR;have hov:IntKind.i64.wrap (((F i).q:Int)-1)=(m:Int):=by have h1:=un hq;have h2:=(un H).1;rw[IntKind.wrap_i64];omega
 obtain⟨c0,c1,c2,c3,c4,c5,c6,c7,c8⟩:=Fw.cs HF4;have HC:=Fw.step HF4 ((un H).go (un HR)) px2;go_wp2_with fail;refine HC.mono ?_;rintro e y4 ⟨rfl,HF5⟩;clear HC HF4 c0 c1 c2 c3 c4 c5 c6 c7 c8 hs HR;obtain⟨c0,c1,c2,c3,c4,c5,c6,c7,c8⟩:=Fw.cs HF5;have HC:=Fw.say HF5 ⟨#[32]⟩ px1;go_wp2_with fail;refine HC.mono ?_;rintro e y5 ⟨rfl,HF6⟩;clear HC HF5 c0 c1 c2 c3 c4 c5 c6 c7 c8;obtain⟨ad,e1,hck,k0⟩:=Fw.kid HF6 (j:=m) (by have:=un hq;omega);subst e1;have j0:(m:Int)<((F i).q:Int):=by have:=un hq;omega
 obtain⟨c0,c1,c2,c3,c4,c5,c6,c7,c8⟩:=Fw.cs HF6;have HC:=Fw.step HF6 (un HB) px0;go_wp2_with fail;refine HC.mono ?_;rintro e y6 ⟨rfl,HF7⟩;clear HC HF6 c0 c1 c2 c3 c4 c5 c6 c7 c8 k0 j0;go_wp2_with fail;exact⟨rfl,.tuple #[],by simp[results,Tryz.results11],rfl,Fw.done HF7 rfl⟩
theorem mw_11(A:Am w n cf cd F i)(hk:Hid ((F i).a.k=11)):W1 w b cd n cf t 11 (.int .i64 i) ([98,114,101,97,107]):=by
 intro l W h hl;obtain⟨pn,cn,pk,ck,V,g,hV,hg,HF1,c0,⟨d0,d1,d2,d3,d4,d5,d6,d7,d8⟩,hi,hn⟩:=Fw.open h hl A;clear h hl A;go_enter Tryz.func11,Tryz.ntmps11;go_upto_region 1 with fail
 try rw[hV]
 try rw[hg]
 clear hV hg c0 d0 d1 d2 d3 d4 d5 d6 d7 d8 hi hn;obtain⟨c0,c1,c2,c3,c4,c5,c6,c7,c8⟩:=Fw.cs HF1;rw[un hk]at c0;have HC:=Fw.say HF1 ⟨#[98,114,101,97,107]⟩ px0;go_wp2_with fail;refine HC.mono ?_;rintro e y1 ⟨rfl,HF2⟩;clear HC HF1 c0 c1 c2 c3 c4 c5 c6 c7 c8;go_wp2_with fail;exact⟨rfl,.tuple #[],by simp[results,Tryz.results11],rfl,Fw.done HF2 rfl⟩
theorem mw_12(A:Am w n cf cd F i)(hk:Hid ((F i).a.k=12)):W1 w b cd n cf t 11 (.int .i64 i) ([110,101,120,116]):=by
 intro l W h hl;obtain⟨pn,cn,pk,ck,V,g,hV,hg,HF1,c0,⟨d0,d1,d2,d3,d4,d5,d6,d7,d8⟩,hi,hn⟩:=Fw.open h hl A;clear h hl A;go_enter Tryz.func11,Tryz.ntmps11;go_upto_region 1 with fail
 try rw[hV]
 try rw[hg]
 clear hV hg c0 d0 d1 d2 d3 d4 d5 d6 d7 d8 hi hn;obtain⟨c0,c1,c2,c3,c4,c5,c6,c7,c8⟩:=Fw.cs HF1;rw[un hk]at c0;have HC:=Fw.say HF1 ⟨#[110,101,120,116]⟩ px0;go_wp2_with fail;refine HC.mono ?_;rintro e y1 ⟨rfl,HF2⟩;clear HC HF1 c0 c1 c2 c3 c4 c5 c6 c7 c8;go_wp2_with fail;exact⟨rfl,.tuple #[],by simp[results,Tryz.results11],rfl,Fw.done HF2 rfl⟩
theorem mw_13a(A:Am w n cf cd F i)(hk:Hid ((F i).a.k=13))(hq:Hid ((F i).q=0)):W1 w b cd n cf t 11 (.int .i64 i) ([114,101,116,117,114,110]):=by
 intro l W h hl;obtain⟨pn,cn,pk,ck,V,g,hV,hg,HF1,c0,⟨d0,d1,d2,d3,d4,d5,d6,d7,d8⟩,hi,hn⟩:=Fw.open h hl A;clear h hl A;go_enter Tryz.func11,Tryz.ntmps11;go_upto_region 1 with fail
 try rw[hV]
 try rw[hg]
 clear hV hg c0 d0 d1 d2 d3 d4 d5 d6 d7 d8 hi hn;obtain⟨c0,c1,c2,c3,c4,c5,c6,c7,c8⟩:=Fw.cs HF1;rw[un hk]at c0;have HC:=Fw.say HF1 ⟨#[114,101,116,117,114,110]⟩ px0;go_wp2_with fail;refine HC.mono ?_;rintro e y1 ⟨rfl,HF2⟩;clear HC HF1 c0 c1 c2 c3 c4 c5 c6 c7 c8;obtain⟨c0,c1,c2,c3,c4,c5,c6,c7,c8⟩:=Fw.cs HF2;rw[un hq]at c8;go_wp2_with fail;exact⟨rfl,.tuple #[],by simp[results,Tryz.results11],rfl,Fw.done HF2 rfl⟩
theorem mw_13b(A:Am w n cf cd F i)(hk:Hid ((F i).a.k=13))(hq:Hid (0<(F i).q))(H:Hid (WL w b cd n cf t (F i).K ((F i).q) ts)):W1 w b cd n cf t 11 (.int .i64 i) ([114,101,116,117,114,110]++[32]++cmj ts (F i).q):=by
 intro l W h hl;obtain⟨pn,cn,pk,ck,V,g,hV,hg,HF1,c0,⟨d0,d1,d2,d3,d4,d5,d6,d7,d8⟩,hi,hn⟩:=Fw.open h hl A;clear h hl A;go_enter Tryz.func11,Tryz.ntmps11;go_upto_region 1 with fail
 try rw[hV]
 try rw[hg]
 clear hV hg c0 d0 d1 d2 d3 d4 d5 d6 d7 d8 hi hn;obtain⟨c0,c1,c2,c3,c4,c5,c6,c7,c8⟩:=Fw.cs HF1;rw[un hk]at c0;have HC:=Fw.say HF1 ⟨#[114,101,116,117,114,110]⟩ px2;go_wp2_with fail;refine HC.mono ?_;rintro e y1 ⟨rfl,HF2⟩;clear HC HF1 c0 c1 c2 c3 c4 c5 c6 c7 c8;obtain⟨c0,c1,c2,c3,c4,c5,c6,c7,c8⟩:=Fw.cs HF2;have hq0:(0:Int)<((F i).q:Int):=by have:=un hq;omega
 have HC:=Fw.say HF2 ⟨#[32]⟩ px1;go_wp2_with fail;refine HC.mono ?_;rintro e y2 ⟨rfl,HF3⟩;clear HC HF2 c0 c1 c2 c3 c4 c5 c6 c7 c8;obtain⟨c0,c1,c2,c3,c4,c5,c6,c7,c8⟩:=Fw.cs HF3;have HC:=Fw.xs HF3 H px0;go_wp2_with fail;refine HC.mono ?_;rintro e y3 ⟨rfl,HF4⟩;clear HC HF3 c0 c1 c2 c3 c4 c5 c6 c7 c8 hq0;go_wp2_with fail;exact⟨rfl,.tuple #[],by simp[results,Tryz.results11],rfl,Fw.done HF4 rfl⟩
theorem mw_14(A:Am w n cf cd F i)(hk:Hid ((F i).a.k=14))(hp:Hid ((F i).p<=200))(hq:Hid ((F i).q=2))(HX:Hid (W1 w b cd n cf t 22 (.int .i64 ((F i).K 0)) (X)))(HY:Hid (W1 w b cd n cf t 22 (.int .i64 ((F i).K 1)) (Y))):W1 w b cd n cf t 11 (.int .i64 i) ([116,114,121,32]++X++[32,99,97,116,99,104,32]++nms (F i)++[32]++Y):=by
 intro l W h hl;obtain⟨pn,cn,pk,ck,V,g,hV,hg,HF1,c0,⟨d0,d1,d2,d3,d4,d5,d6,d7,d8⟩,hi,hn⟩:=Fw.open h hl A;clear h hl A;go_enter Tryz.func11,Tryz.ntmps11;go_upto_region 1 with fail
 try rw[hV]
 try rw[hg]
 clear hV hg c0 d0 d1 d2 d3 d4 d5 d6 d7 d8 hi hn;obtain⟨c0,c1,c2,c3,c4,c5,c6,c7,c8⟩:=Fw.cs HF1;rw[un hk]at c0;have HC:=Fw.say HF1 ⟨#[116,114,121,32]⟩ px5;go_wp2_with fail;refine HC.mono ?_;rintro e y1 ⟨rfl,HF2⟩;clear HC HF1 c0 c1 c2 c3 c4 c5 c6 c7 c8;obtain⟨ad,e1,hck,k0⟩:=Fw.kid HF2 (j:=0) (by have:=un hq;omega);subst e1;rw[add_z]at k0;have j0:(0:Int)<((F i).q:Int):=by have:=un hq;omega
 obtain⟨c0,c1,c2,c3,c4,c5,c6,c7,c8⟩:=Fw.cs HF2;have HC:=Fw.step HF2 (un HX) px4;go_wp2_with fail;refine HC.mono ?_;rintro e y2 ⟨rfl,HF3⟩;clear HC HF2 c0 c1 c2 c3 c4 c5 c6 c7 c8 k0 j0;obtain⟨c0,c1,c2,c3,c4,c5,c6,c7,c8⟩:=Fw.cs HF3;have HC:=Fw.say HF3 ⟨#[32,99,97,116,99,104,32]⟩ px3;go_wp2_with fail;refine HC.mono ?_;rintro e y3 ⟨rfl,HF4⟩;clear HC HF3 c0 c1 c2 c3 c4 c5 c6 c7 c8;obtain⟨c0,c1,c2,c3,c4,c5,c6,c7,c8⟩:=Fw.cs HF4;have HC:=Fw.nms HF4 (by have:=un hp;omega) px2;go_wp2_with fail;refine HC.mono ?_;rintro e y4 ⟨rfl,HF5⟩;clear HC HF4 c0 c1 c2 c3 c4 c5 c6 c7 c8;obtain⟨c0,c1,c2,c3,c4,c5,c6,c7,c8⟩:=Fw.cs HF5;have HC:=Fw.say HF5 ⟨#[32]⟩ px1;go_wp2_with fail;refine HC.mono ?_;rintro e y5 ⟨rfl,HF6⟩;clear HC HF5 c0 c1 c2 c3 c4 c5 c6 c7 c8;obtain⟨_,e1,-,k1⟩:=Fw.kid HF6 (j:=1) (by have:=un hq;omega);obtain rfl:=Option.some.inj e1;replace k1:World.cell? _ ⟨ad.block,ad.off+1,none⟩=_:=k1;have j1:((1:Nat):Int)<((F i).q:Int):=by have:=un hq;omega
 obtain⟨c0,c1,c2,c3,c4,c5,c6,c7,c8⟩:=Fw.cs HF6;have HC:=Fw.step HF6 (un HY) px0;go_wp2_with fail;refine HC.mono ?_;rintro e y6 ⟨rfl,HF7⟩;clear HC HF6 c0 c1 c2 c3 c4 c5 c6 c7 c8 k1 j1;go_wp2_with fail;exact⟨rfl,.tuple #[],by simp[results,Tryz.results11],rfl,Fw.done HF7 rfl⟩
theorem mw_15(A:Am w n cf cd F i)(hk:Hid ((F i).a.k=15))(hq:Hid ((F i).q=1))(H:Hid (W2 w b cd n cf t 25 (.int .i64 ((F i).K 0)) (.int .i64 0) (X))):W1 w b cd n cf t 11 (.int .i64 i) ([116,104,114,111,119,32]++X):=by
 intro l W h hl;obtain⟨pn,cn,pk,ck,V,g,hV,hg,HF1,c0,⟨d0,d1,d2,d3,d4,d5,d6,d7,d8⟩,hi,hn⟩:=Fw.open h hl A;clear h hl A;go_enter Tryz.func11,Tryz.ntmps11;go_upto_region 1 with fail
 try rw[hV]
 try rw[hg]
 clear hV hg c0 d0 d1 d2 d3 d4 d5 d6 d7 d8 hi hn;obtain⟨c0,c1,c2,c3,c4,c5,c6,c7,c8⟩:=Fw.cs HF1;rw[un hk]at c0;have HC:=Fw.say HF1 ⟨#[116,104,114,111,119,32]⟩ px1;go_wp2_with fail;refine HC.mono ?_;rintro e y1 ⟨rfl,HF2⟩;clear HC HF1 c0 c1 c2 c3 c4 c5 c6 c7 c8;obtain⟨ad,e1,hck,k0⟩:=Fw.kid HF2 (j:=0) (by have:=un hq;omega);subst e1;rw[add_z]at k0;have j0:(0:Int)<((F i).q:Int):=by have:=un hq;omega
 obtain⟨c0,c1,c2,c3,c4,c5,c6,c7,c8⟩:=Fw.cs HF2;have HC:=Fw.step HF2 (un H) px0;go_wp2_with fail;refine HC.mono ?_;rintro e y2 ⟨rfl,HF3⟩;clear HC HF2 c0 c1 c2 c3 c4 c5 c6 c7 c8 k0 j0;go_wp2_with fail;exact⟨rfl,.tuple #[],by simp[results,Tryz.results11],rfl,Fw.done HF3 rfl⟩
theorem mw_16(A:Am w n cf cd F i)(hk:Hid ((F i).a.k=16))(hq:Hid ((F i).q=1))(H:Hid (W2 w b cd n cf t 25 (.int .i64 ((F i).K 0)) (.int .i64 0) (X))):W1 w b cd n cf t 11 (.int .i64 i) ([100,101,102,101,114,32]++X):=by
 intro l W h hl;obtain⟨pn,cn,pk,ck,V,g,hV,hg,HF1,c0,⟨d0,d1,d2,d3,d4,d5,d6,d7,d8⟩,hi,hn⟩:=Fw.open h hl A;clear h hl A;go_enter Tryz.func11,Tryz.ntmps11;go_upto_region 1 with fail
 try rw[hV]
 try rw[hg]
 clear hV hg c0 d0 d1 d2 d3 d4 d5 d6 d7 d8 hi hn;obtain⟨c0,c1,c2,c3,c4,c5,c6,c7,c8⟩:=Fw.cs HF1;rw[un hk]at c0;have HC:=Fw.say HF1 ⟨#[100,101,102,101,114,32]⟩ px1;go_wp2_with fail;refine HC.mono ?_;rintro e y1 ⟨rfl,HF2⟩;clear HC HF1 c0 c1 c2 c3 c4 c5 c6 c7 c8;obtain⟨ad,e1,hck,k0⟩:=Fw.kid HF2 (j:=0) (by have:=un hq;omega);subst e1;rw[add_z]at k0;have j0:(0:Int)<((F i).q:Int):=by have:=un hq;omega
 obtain⟨c0,c1,c2,c3,c4,c5,c6,c7,c8⟩:=Fw.cs HF2;have HC:=Fw.step HF2 (un H) px0;go_wp2_with fail;refine HC.mono ?_;rintro e y2 ⟨rfl,HF3⟩;clear HC HF2 c0 c1 c2 c3 c4 c5 c6 c7 c8 k0 j0;go_wp2_with fail;exact⟨rfl,.tuple #[],by simp[results,Tryz.results11],rfl,Fw.done HF3 rfl⟩
def r33(o:Int):Int:=if o=12 then 4 else bpo o+1
theorem bne9{k m:Int}(h:k≠m):(k==m)=false:=beq_eq_false_iff_ne.2 h
theorem sp_p33(o:Int)(ho:1<=o/\o<=18)(w:World):Calls Tryz.prog 74 #[.int .i64 (60+o)] w λe w'=>e=.returned (.tuple #[.int .i64 (bpo o),.int .i64 (r33 o)])/\w'=w:=by
 rcases(by omega:o=1\/o=2\/o=3\/o=4\/o=5\/o=6\/o=7\/o=8\/o=9\/o=10\/o=11\/o=12\/o=13\/o=14\/o=15\/o=16\/o=17\/o=18)with rfl|rfl|rfl|rfl|rfl|rfl|rfl|rfl|rfl|rfl|rfl|rfl|rfl|rfl|rfl|rfl|rfl|rfl
 all_goals
  go_enter Tryz.func74,Tryz.ntmps74;go_wp2_with fail;refine bodyPost_ret (v:=_) (by simp[results,Tryz.results74,go_sem];rfl) rfl ⟨by simp[bpo,r33],rfl⟩
theorem sp_power(ho:a.k=31->1<=a.o/\a.o<=18)(W:World):Calls Tryz.prog 40 #[.agg #[.int .i64 a.k,.int .i64 a.f,.int .i64 a.t,.int .i64 a.l,.int .i64 a.o,.int .i64 a.m,.string a.x,.slice pn p cn,.slice pk q ck]] W λe w'=>e=.returned (.int .i64 (pwf a))/\Below W.heap.size W w':=by
 obtain⟨g,hg⟩:∃g,g=W.heap.size:=⟨_,rfl⟩
 obtain⟨w2,hw2⟩:∃w2,w2=W.alloc (.cells #[.int .i64 a.k,.int .i64 a.f,.int .i64 a.t,.int .i64 a.l,.int .i64 a.o,.int .i64 a.m,.string a.x,.slice pn p cn,.slice pk q ck] 44):=⟨_,rfl⟩
 have hB2:w2.heap[g]? =some (.cells #[.int .i64 a.k,.int .i64 a.f,.int .i64 a.t,.int .i64 a.l,.int .i64 a.o,.int .i64 a.m,.string a.x,.slice pn p cn,.slice pk q ck] 44 (0,0)):=by rw[hw2,hg];exact alloc_at W _ _
 have HX:Hid (Below W.heap.size W w2):=by
  show Below _ _ _;rw[hw2];exact bel1 W _
 have c0:w2.cell? ⟨g,0,none⟩=some (.int .i64 a.k):=cell_of hB2 rfl;have c4:w2.cell? ⟨g,4,none⟩=some (.int .i64 a.o):=cell_of hB2 rfl;have hWd:W.alloc (.cells #[.int .i64 a.k,.int .i64 a.f,.int .i64 a.t,.int .i64 a.l,.int .i64 a.o,.int .i64 a.m,.string a.x,.slice pn p cn,.slice pk q ck] 44)=w2:=hw2.symm;have hgd:W.heap.size=g:=hg.symm;clear hB2 hw2 hg;go_enter Tryz.func40,Tryz.ntmps40;go_upto_region 1 with fail
 try rw[hWd]
 try rw[hgd]
 clear hWd hgd;by_cases h1:a.k=29
 ·have e:pwf a=1:=by unfold pwf;rw[if_pos h1]
  rw[h1]at c0;have HEV:Hid (_=_):=e;clear e h1;go_wp2_with fail;go_ret;exact⟨by rw[show _=_ from HEV];rfl,HX⟩
 by_cases h2:a.k=28
 ·have e:pwf a=2:=by unfold pwf;rw[if_neg h1,if_pos h2]
  rw[h2]at c0;have HEV:Hid (_=_):=e;clear e h1 h2;go_wp2_with fail;go_ret;exact⟨by rw[show _=_ from HEV];rfl,HX⟩
 by_cases h3:a.k=31
 ·have e:pwf a=bpo a.o:=by unfold pwf;rw[if_neg h1,if_neg h2,if_pos h3]
  have HC:=λW=>sp_p33 a.o (ho h3) W;have HOO:Hid (1<=a.o/\a.o<=18):=ho h3;have hov:IntKind.i64.wrap (60+a.o)=60+a.o:=by have:=ho h3;rw[IntKind.wrap_i64];omega
  rw[h3]at c0;have HEV:Hid (_=_):=e;clear e h1 h2 h3 ho;have HC2:=HC w2;clear HC;go_wp2_with fail;refine HC2.mono ?_;rintro e w3 ⟨rfl,rfl⟩;clear HC2;go_wp2_with fail;go_ret;exact⟨by rw[show _=_ from HEV];rfl,HX⟩
 by_cases h4:a.k=30
 ·have e:pwf a=11:=by unfold pwf;rw[if_neg h1,if_neg h2,if_neg h3,if_pos h4]
  rw[h4]at c0;have HEV:Hid (_=_):=e;clear e h1 h2 h3 h4;go_wp2_with fail;go_ret;exact⟨by rw[show _=_ from HEV];rfl,HX⟩
 ·have e:pwf a=12:=by unfold pwf;rw[if_neg h1,if_neg h2,if_neg h3,if_neg h4]
  have g1:(a.k==29)=false:=bne9 h1;have g2:(a.k==28)=false:=bne9 h2;have g3:(a.k==31)=false:=bne9 h3;have g4:(a.k==30)=false:=bne9 h4;have HEV:Hid (_=_):=e;clear e h1 h2 h3 h4;go_wp2_with fail;go_ret;exact⟨by rw[show _=_ from HEV];rfl,HX⟩
theorem sp_right(hk:a.k=28\/a.k=29\/a.k=31)(ho:a.k=31->1<=a.o/\a.o<=18)(W:World):Calls Tryz.prog 75 #[.agg #[.int .i64 a.k,.int .i64 a.f,.int .i64 a.t,.int .i64 a.l,.int .i64 a.o,.int .i64 a.m,.string a.x,.slice pn p cn,.slice pk q ck]] W λe w'=>e=.returned (.int .i64 (rpf a))/\Below W.heap.size W w':=by
 obtain⟨g,hg⟩:∃g,g=W.heap.size:=⟨_,rfl⟩
 obtain⟨w2,hw2⟩:∃w2,w2=W.alloc (.cells #[.int .i64 a.k,.int .i64 a.f,.int .i64 a.t,.int .i64 a.l,.int .i64 a.o,.int .i64 a.m,.string a.x,.slice pn p cn,.slice pk q ck] 44):=⟨_,rfl⟩
 have hB2:w2.heap[g]? =some (.cells #[.int .i64 a.k,.int .i64 a.f,.int .i64 a.t,.int .i64 a.l,.int .i64 a.o,.int .i64 a.m,.string a.x,.slice pn p cn,.slice pk q ck] 44 (0,0)):=by rw[hw2,hg];exact alloc_at W _ _
 have HX:Hid (Below W.heap.size W w2):=by
  show Below _ _ _;rw[hw2];exact bel1 W _
 have c0:w2.cell? ⟨g,0,none⟩=some (.int .i64 a.k):=cell_of hB2 rfl;have c4:w2.cell? ⟨g,4,none⟩=some (.int .i64 a.o):=cell_of hB2 rfl;have hWd:W.alloc (.cells #[.int .i64 a.k,.int .i64 a.f,.int .i64 a.t,.int .i64 a.l,.int .i64 a.o,.int .i64 a.m,.string a.x,.slice pn p cn,.slice pk q ck] 44)=w2:=hw2.symm;have hgd:W.heap.size=g:=hg.symm;clear hB2 hw2 hg;go_enter Tryz.func75,Tryz.ntmps75;go_upto_region 1 with fail
 try rw[hWd]
 try rw[hgd]
 clear hWd hgd;by_cases h1:a.k=29
 ·have e:rpf a=2:=by unfold rpf;rw[if_pos h1]
  rw[h1]at c0;have HEV:Hid (_=_):=e;clear e h1;go_wp2_with fail;go_ret;exact⟨by rw[show _=_ from HEV];rfl,HX⟩
 by_cases h2:a.k=28
 ·have e:rpf a=3:=by unfold rpf;rw[if_neg h1,if_pos h2]
  rw[h2]at c0;have HEV:Hid (_=_):=e;clear e h1 h2;go_wp2_with fail;go_ret;exact⟨by rw[show _=_ from HEV];rfl,HX⟩
 ·have h3:a.k=31:=by omega
  have e:r33 a.o=rpf a:=by unfold rpf r33;rw[if_neg h1,if_neg h2]
  have HC:=λW=>sp_p33 a.o (ho h3) W;have hov:IntKind.i64.wrap (60+a.o)=60+a.o:=by have:=ho h3;rw[IntKind.wrap_i64];omega
  have HEV:Hid (_=_):=e.symm;rw[h3]at c0;clear e h1 h2 h3 ho hk;have HC2:=HC w2;clear HC;go_wp2_with fail;refine HC2.mono ?_;rintro e w3 ⟨rfl,rfl⟩;clear HC2;go_wp2_with fail;go_ret;exact⟨by rw[show _=_ from HEV];rfl,HX⟩
theorem sp_base34(k:Int)(w:World):Calls Tryz.prog 79 #[.int .i64 k] w λe w'=>e=.returned (.bool (decide (k=26\/k=32\/k=33\/k=34\/k=37)))/\w'=w:=by
 rcases Classical.em (k=26\/k=32\/k=33\/k=34\/k=37)with h|h
 ·rw[decide_eq_true h];rcases h with rfl|rfl|rfl|rfl|rfl
  all_goals
   go_enter Tryz.func79,Tryz.ntmps79;go_wp2_with fail;go_ret;exact⟨rfl,rfl⟩
 ·rw[decide_eq_false h];have g1:(k==26)=false:=bne9 (λe=>h (.inl e));have g2:(k==32)=false:=bne9 (λe=>h (.inr (.inl e)));have g3:(k==33)=false:=bne9 (λe=>h (.inr (.inr (.inl e))));have g4:(k==34)=false:=bne9 (λe=>h (.inr (.inr (.inr (.inl e)))));have g5:(k==37)=false:=bne9 (λe=>h (.inr (.inr (.inr (.inr e)))));clear h;go_enter Tryz.func79,Tryz.ntmps79;go_wp2_with fail;go_ret;exact⟨rfl,rfl⟩
