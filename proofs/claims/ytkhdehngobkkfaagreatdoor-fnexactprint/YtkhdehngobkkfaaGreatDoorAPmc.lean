import Derived.Test.YtkhdehngobkkfaaGreatDoorAPmb
set_option maxHeartbeats 16000000
namespace Go.Proofs.YtkhdehngobkkfaaGreatDoor.Fo
open Go.ChangeShapes Go.WideShapes Go.ChangeAt Go.RowKit
set_option linter.unusedVariables false
set_option maxRecDepth 100000
variable {w:World}{b t n i cf:Nat}{cd:Addr}{F:Nat->Gv}{X:List UInt8}{le:Int}{s:ByteArray}
structure Xp (w:World) (n cf:Nat) (cd:Addr) (F:Nat->Gv) (i:Nat) (pw:Int):Prop where
 A:Am w n cf cd F i
 o:(F i).a.k=31->1<=(F i).a.o/\(F i).a.o<=18
 p:pw=pwf (F i).a
theorem mb_yes(A:Am w n cf cd F i)(hk:Hid (decide ((F i).a.k=26\/(F i).a.k=32\/(F i).a.k=33\/(F i).a.k=34\/(F i).a.k=37)=true))(H:Hid (W2 w b cd n cf t 25 (.int .i64 i) (.int .i64 0) (X))):W1 w b cd n cf t 44 (.int .i64 i) (X):=by
 intro l W h hl;obtain⟨pn,cn,pk,ck,h9,-,-,-⟩:=A.get;obtain⟨d0,d1,d2,d3,d4,d5,d6,d7,d8⟩:=h9.below h.bel;have c0:=h.frm;have hi:(i:Int)<(n:Int):=by have:=A.hi;omega
 have hn:(n:Int)<=3000:=by have:=A.hn;omega
 have HB:=sp_base34 (F i).a.k W;rw[un hk]at HB;have HC:=(un H) l W h hl;clear h hl A h9 d1 d2 d3 d4 d5 d6 d7 d8;go_enter Tryz.func44,Tryz.ntmps44;go_wp2_with fail;refine HB.mono ?_;rintro e w' ⟨rfl,rfl⟩;clear HB;go_wp2_with fail;refine HC.mono ?_;rintro e y ⟨rfl,h2,o2⟩;have HN:Hid (Ws w b (.slice (some cd) n cf) t (l++X) y/\Lib.OthersKept 5 (some b) w' y):=(⟨h2,o2⟩:_/\_)
 clear HC h2 o2 c0 d0;go_wp2_with fail;exact⟨rfl,.tuple #[],by simp[results,Tryz.results44],rfl,HN⟩
theorem mb_no(A:Am w n cf cd F i)(hk:Hid (decide ((F i).a.k=26\/(F i).a.k=32\/(F i).a.k=33\/(F i).a.k=34\/(F i).a.k=37)=false))(H:Hid (W2 w b cd n cf t 25 (.int .i64 i) (.int .i64 0) (X))):W1 w b cd n cf t 44 (.int .i64 i) ([40]++X++[41]):=by
 intro l W h hl;obtain⟨pn,cn,pk,ck,h9,-,-,-⟩:=A.get;obtain⟨d0,d1,d2,d3,d4,d5,d6,d7,d8⟩:=h9.below h.bel;have c0:=h.frm;have hi:(i:Int)<(n:Int):=by have:=A.hi;omega
 have hn:(n:Int)<=3000:=by have:=A.hn;omega
 have HB:=sp_base34 (F i).a.k W;rw[un hk]at HB;rw[List.length_append,List.length_append]at hl;have HC:=say_one w b (.slice (some cd) n cf) t ⟨#[40]⟩ [40] rfl h (by omega);have HL:Hid (l.length+([40].length+X.length+[41].length)<=1000000000000):=hl;clear h hl A h9 d1 d2 d3 d4 d5 d6 d7 d8;go_enter Tryz.func44,Tryz.ntmps44;go_wp2_with fail;refine HB.mono ?_;rintro e w' ⟨rfl,rfl⟩;clear HB;go_wp2_with fail;refine HC.mono ?_;rintro e y1 ⟨rfl,h1,o1⟩;have HC:=(un H) _ y1 h1 (by have:=un HL;rw[List.length_append];omega);have HO:Hid (Lib.OthersKept 5 (some b) w' y1):=o1;clear h1 o1 c0 d0;go_wp2_with fail;refine HC.mono ?_;rintro e y2 ⟨rfl,h1,o1⟩;have HC:=say_one w b (.slice (some cd) n cf) t ⟨#[41]⟩ [41] rfl h1 (by have:=un HL;rw[List.length_append,List.length_append];omega);have HO2:Hid (Lib.OthersKept 5 (some b) w' y2):=(un HO).trans o1;clear h1 o1 HO;go_wp2_with fail;refine HC.mono ?_;rintro e y3 ⟨rfl,h1,o1⟩;have HN:Hid (Ws w b (.slice (some cd) n cf) t (l++([40]++X++[41])) y3/\Lib.OthersKept 5 (some b) w' y3):=(⟨by rw[<-List.append_assoc,<-List.append_assoc];exact h1,(un HO2).trans o1⟩:_/\_)
 clear HC h1 o1 HO2;go_wp2_with fail;exact⟨rfl,.tuple #[],by simp[results,Tryz.results44],rfl,HN⟩
theorem mx_28(hk:Hid ((F i).a.k=28)){pw:Int}(E:Hid (Xp w n cf cd F i pw))(hle:¬pw<le)(H:Hid (∀pn cn pk ck,RowV w (.slice pn (F i).p cn) (F i).p (λj=>.string ((F i).A j))->RowV w (.slice pk (F i).q ck) (F i).q (λj=>.int .i64 ((F i).K j))->Cw w b (.slice (some cd) n cf) t 41 #[.pointer (some ⟨b,0,none⟩),fmv (F i).a (.slice pn (F i).p cn) (.slice pk (F i).q ck),.string ⟨#[32,97,110,100,32]⟩,.int .i64 pw] (X))):W2 w b cd n cf t 25 (.int .i64 i) (.int .i64 le) (X):=by
 intro l W h hl;obtain⟨pn,cn,pk,ck,V,g,hV,hg,HF1,c0,⟨d0,d1,d2,d3,d4,d5,d6,d7,d8⟩,hi,hn⟩:=Fw.open h hl (un E).A;clear h hl;go_enter Tryz.func25,Tryz.ntmps25;go_upto_region 1 with fail
 try rw[hV]
 try rw[hg]
 clear hV hg c0 d0 d1 d2 d3 d4 d5 d6 d7 d8 hi hn;obtain⟨c0,c1,c2,c3,c4,c5,c6,c7,c8⟩:=Fw.cs HF1;have HC:=sp_power (a:=(F i).a) (pn:=pn) (pk:=pk) (p:=(F i).p) (q:=(F i).q) (cn:=cn) (ck:=ck) (un E).o V;rw[<-(un E).p]at HC;go_wp2_with fail;refine HC.mono ?_;rintro e y1 ⟨rfl,hb⟩;have HF2:=Fw.call HF1 hb;clear HC hb HF1 c0 c1 c2 c3 c4 c5 c6 c7 c8;obtain⟨c0,c1,c2,c3,c4,c5,c6,c7,c8⟩:=Fw.cs HF2;rw[un hk]at c0;have HC:=Fw.step HF2 ((un H) _ _ _ _ (un HF2).rn (un HF2).rk) px0;unfold fmv at HC
 try rw[un hk]at HC
 go_wp2_with fail;refine HC.mono ?_;rintro e y2 ⟨rfl,HF3⟩;clear HC HF2 c0 c1 c2 c3 c4 c5 c6 c7 c8;go_wp2_with fail;exact⟨rfl,.tuple #[],by simp[results,Tryz.results25],rfl,Fw.done HF3 rfl⟩
theorem mx_29(hk:Hid ((F i).a.k=29)){pw:Int}(E:Hid (Xp w n cf cd F i pw))(hle:¬pw<le)(H:Hid (∀pn cn pk ck,RowV w (.slice pn (F i).p cn) (F i).p (λj=>.string ((F i).A j))->RowV w (.slice pk (F i).q ck) (F i).q (λj=>.int .i64 ((F i).K j))->Cw w b (.slice (some cd) n cf) t 41 #[.pointer (some ⟨b,0,none⟩),fmv (F i).a (.slice pn (F i).p cn) (.slice pk (F i).q ck),.string ⟨#[32,111,114,32]⟩,.int .i64 pw] (X))):W2 w b cd n cf t 25 (.int .i64 i) (.int .i64 le) (X):=by
 intro l W h hl;obtain⟨pn,cn,pk,ck,V,g,hV,hg,HF1,c0,⟨d0,d1,d2,d3,d4,d5,d6,d7,d8⟩,hi,hn⟩:=Fw.open h hl (un E).A;clear h hl;go_enter Tryz.func25,Tryz.ntmps25;go_upto_region 1 with fail
 try rw[hV]
 try rw[hg]
 clear hV hg c0 d0 d1 d2 d3 d4 d5 d6 d7 d8 hi hn;obtain⟨c0,c1,c2,c3,c4,c5,c6,c7,c8⟩:=Fw.cs HF1;have HC:=sp_power (a:=(F i).a) (pn:=pn) (pk:=pk) (p:=(F i).p) (q:=(F i).q) (cn:=cn) (ck:=ck) (un E).o V;rw[<-(un E).p]at HC;go_wp2_with fail;refine HC.mono ?_;rintro e y1 ⟨rfl,hb⟩;have HF2:=Fw.call HF1 hb;clear HC hb HF1 c0 c1 c2 c3 c4 c5 c6 c7 c8;obtain⟨c0,c1,c2,c3,c4,c5,c6,c7,c8⟩:=Fw.cs HF2;rw[un hk]at c0;have HC:=Fw.step HF2 ((un H) _ _ _ _ (un HF2).rn (un HF2).rk) px0;unfold fmv at HC
 try rw[un hk]at HC
 go_wp2_with fail;refine HC.mono ?_;rintro e y2 ⟨rfl,HF3⟩;clear HC HF2 c0 c1 c2 c3 c4 c5 c6 c7 c8;go_wp2_with fail;exact⟨rfl,.tuple #[],by simp[results,Tryz.results25],rfl,Fw.done HF3 rfl⟩
theorem mx_30(hk:Hid ((F i).a.k=30)){pw:Int}(E:Hid (Xp w n cf cd F i pw))(hle:¬pw<le)(H:Hid (∀pn cn pk ck,RowV w (.slice pn (F i).p cn) (F i).p (λj=>.string ((F i).A j))->RowV w (.slice pk (F i).q ck) (F i).q (λj=>.int .i64 ((F i).K j))->Cw w b (.slice (some cd) n cf) t 43 #[.pointer (some ⟨b,0,none⟩),fmv (F i).a (.slice pn (F i).p cn) (.slice pk (F i).q ck)] (X))):W2 w b cd n cf t 25 (.int .i64 i) (.int .i64 le) (X):=by
 intro l W h hl;obtain⟨pn,cn,pk,ck,V,g,hV,hg,HF1,c0,⟨d0,d1,d2,d3,d4,d5,d6,d7,d8⟩,hi,hn⟩:=Fw.open h hl (un E).A;clear h hl;go_enter Tryz.func25,Tryz.ntmps25;go_upto_region 1 with fail
 try rw[hV]
 try rw[hg]
 clear hV hg c0 d0 d1 d2 d3 d4 d5 d6 d7 d8 hi hn;obtain⟨c0,c1,c2,c3,c4,c5,c6,c7,c8⟩:=Fw.cs HF1;have HC:=sp_power (a:=(F i).a) (pn:=pn) (pk:=pk) (p:=(F i).p) (q:=(F i).q) (cn:=cn) (ck:=ck) (un E).o V;rw[<-(un E).p]at HC;go_wp2_with fail;refine HC.mono ?_;rintro e y1 ⟨rfl,hb⟩;have HF2:=Fw.call HF1 hb;clear HC hb HF1 c0 c1 c2 c3 c4 c5 c6 c7 c8;obtain⟨c0,c1,c2,c3,c4,c5,c6,c7,c8⟩:=Fw.cs HF2;rw[un hk]at c0;have HC:=Fw.step HF2 ((un H) _ _ _ _ (un HF2).rn (un HF2).rk) px0;unfold fmv at HC
 try rw[un hk]at HC
 go_wp2_with fail;refine HC.mono ?_;rintro e y2 ⟨rfl,HF3⟩;clear HC HF2 c0 c1 c2 c3 c4 c5 c6 c7 c8;go_wp2_with fail;exact⟨rfl,.tuple #[],by simp[results,Tryz.results25],rfl,Fw.done HF3 rfl⟩
theorem mx_35(hk:Hid ((F i).a.k=35)){pw:Int}(E:Hid (Xp w n cf cd F i pw))(hle:¬pw<le)(H:Hid (∀pn cn pk ck,RowV w (.slice pn (F i).p cn) (F i).p (λj=>.string ((F i).A j))->RowV w (.slice pk (F i).q ck) (F i).q (λj=>.int .i64 ((F i).K j))->Cw w b (.slice (some cd) n cf) t 45 #[.pointer (some ⟨b,0,none⟩),fmv (F i).a (.slice pn (F i).p cn) (.slice pk (F i).q ck)] (X))):W2 w b cd n cf t 25 (.int .i64 i) (.int .i64 le) (X):=by
 intro l W h hl;obtain⟨pn,cn,pk,ck,V,g,hV,hg,HF1,c0,⟨d0,d1,d2,d3,d4,d5,d6,d7,d8⟩,hi,hn⟩:=Fw.open h hl (un E).A;clear h hl;go_enter Tryz.func25,Tryz.ntmps25;go_upto_region 1 with fail
 try rw[hV]
 try rw[hg]
 clear hV hg c0 d0 d1 d2 d3 d4 d5 d6 d7 d8 hi hn;obtain⟨c0,c1,c2,c3,c4,c5,c6,c7,c8⟩:=Fw.cs HF1;have HC:=sp_power (a:=(F i).a) (pn:=pn) (pk:=pk) (p:=(F i).p) (q:=(F i).q) (cn:=cn) (ck:=ck) (un E).o V;rw[<-(un E).p]at HC;go_wp2_with fail;refine HC.mono ?_;rintro e y1 ⟨rfl,hb⟩;have HF2:=Fw.call HF1 hb;clear HC hb HF1 c0 c1 c2 c3 c4 c5 c6 c7 c8;obtain⟨c0,c1,c2,c3,c4,c5,c6,c7,c8⟩:=Fw.cs HF2;rw[un hk]at c0;have HC:=Fw.step HF2 ((un H) _ _ _ _ (un HF2).rn (un HF2).rk) px0;unfold fmv at HC
 try rw[un hk]at HC
 go_wp2_with fail;refine HC.mono ?_;rintro e y2 ⟨rfl,HF3⟩;clear HC HF2 c0 c1 c2 c3 c4 c5 c6 c7 c8;go_wp2_with fail;exact⟨rfl,.tuple #[],by simp[results,Tryz.results25],rfl,Fw.done HF3 rfl⟩
theorem mx_36(hk:Hid ((F i).a.k=36)){pw:Int}(E:Hid (Xp w n cf cd F i pw))(hle:¬pw<le)(H:Hid (W1 w b cd n cf t 26 (.int .i64 i) (X))):W2 w b cd n cf t 25 (.int .i64 i) (.int .i64 le) ([102,110]++X):=by
 intro l W h hl;obtain⟨pn,cn,pk,ck,V,g,hV,hg,HF1,c0,⟨d0,d1,d2,d3,d4,d5,d6,d7,d8⟩,hi,hn⟩:=Fw.open h hl (un E).A;clear h hl;go_enter Tryz.func25,Tryz.ntmps25;go_upto_region 1 with fail
 try rw[hV]
 try rw[hg]
 clear hV hg c0 d0 d1 d2 d3 d4 d5 d6 d7 d8 hi hn;obtain⟨c0,c1,c2,c3,c4,c5,c6,c7,c8⟩:=Fw.cs HF1;have HC:=sp_power (a:=(F i).a) (pn:=pn) (pk:=pk) (p:=(F i).p) (q:=(F i).q) (cn:=cn) (ck:=ck) (un E).o V;rw[<-(un E).p]at HC;go_wp2_with fail;refine HC.mono ?_;rintro e y1 ⟨rfl,hb⟩;have HF2:=Fw.call HF1 hb;clear HC hb HF1 c0 c1 c2 c3 c4 c5 c6 c7 c8;obtain⟨c0,c1,c2,c3,c4,c5,c6,c7,c8⟩:=Fw.cs HF2;rw[un hk]at c0;have HC:=Fw.say HF2 ⟨#[102,110]⟩ px1;go_wp2_with fail;refine HC.mono ?_;rintro e y2 ⟨rfl,HF3⟩;clear HC HF2 c0 c1 c2 c3 c4 c5 c6 c7 c8;have HC:=Fw.step HF3 (un H) px0;go_wp2_with fail;refine HC.mono ?_;rintro e y3 ⟨rfl,HF4⟩;clear HC HF3;go_wp2_with fail;exact⟨rfl,.tuple #[],by simp[results,Tryz.results25],rfl,Fw.done HF4 rfl⟩
theorem mx_37(hk:Hid ((F i).a.k=37)){pw:Int}(E:Hid (Xp w n cf cd F i pw))(hle:¬pw<le)(hq:Hid ((F i).q=1))(H:Hid (W2 w b cd n cf t 25 (.int .i64 ((F i).K 0)) (.int .i64 0) (X))):W2 w b cd n cf t 25 (.int .i64 i) (.int .i64 le) ([40]++X++[41]):=by
 intro l W h hl;obtain⟨pn,cn,pk,ck,V,g,hV,hg,HF1,c0,⟨d0,d1,d2,d3,d4,d5,d6,d7,d8⟩,hi,hn⟩:=Fw.open h hl (un E).A;clear h hl;go_enter Tryz.func25,Tryz.ntmps25;go_upto_region 1 with fail
 try rw[hV]
 try rw[hg]
 clear hV hg c0 d0 d1 d2 d3 d4 d5 d6 d7 d8 hi hn;obtain⟨c0,c1,c2,c3,c4,c5,c6,c7,c8⟩:=Fw.cs HF1;have HC:=sp_power (a:=(F i).a) (pn:=pn) (pk:=pk) (p:=(F i).p) (q:=(F i).q) (cn:=cn) (ck:=ck) (un E).o V;rw[<-(un E).p]at HC;go_wp2_with fail;refine HC.mono ?_;rintro e y1 ⟨rfl,hb⟩;have HF2:=Fw.call HF1 hb;clear HC hb HF1 c0 c1 c2 c3 c4 c5 c6 c7 c8;obtain⟨c0,c1,c2,c3,c4,c5,c6,c7,c8⟩:=Fw.cs HF2;rw[un hk]at c0;have HC:=Fw.say HF2 ⟨#[40]⟩ px2;go_wp2_with fail;refine HC.mono ?_;rintro e y2 ⟨rfl,HF3⟩;clear HC HF2 c0 c1 c2 c3 c4 c5 c6 c7 c8;obtain⟨ad,e1,hck,k0⟩:=Fw.kid HF3 (j:=0) (by have:=un hq;omega);subst e1;rw[add_z]at k0;have j0:(0:Int)<((F i).q:Int):=by have:=un hq;omega
 obtain⟨c0,c1,c2,c3,c4,c5,c6,c7,c8⟩:=Fw.cs HF3;have HC:=Fw.step HF3 (un H) px1;go_wp2_with fail;refine HC.mono ?_;rintro e y3 ⟨rfl,HF4⟩;clear HC HF3 c0 c1 c2 c3 c4 c5 c6 c7 c8 k0 j0;have HC:=Fw.say HF4 ⟨#[41]⟩ px0;go_wp2_with fail;refine HC.mono ?_;rintro e y4 ⟨rfl,HF5⟩;clear HC HF4;go_wp2_with fail;exact⟨rfl,.tuple #[],by simp[results,Tryz.results25],rfl,Fw.done HF5 rfl⟩
theorem mx_32(hk:Hid ((F i).a.k=32)){pw:Int}(E:Hid (Xp w n cf cd F i pw))(hle:¬pw<le){Y:List UInt8}(hq:Hid ((F i).q=2))(H:Hid (W1 w b cd n cf t 44 (.int .i64 ((F i).K 0)) (X)))(H2:Hid (W2 w b cd n cf t 25 (.int .i64 ((F i).K 1)) (.int .i64 0) (Y))):W2 w b cd n cf t 25 (.int .i64 i) (.int .i64 le) (X++[91]++Y++[93]):=by
 intro l W h hl;obtain⟨pn,cn,pk,ck,V,g,hV,hg,HF1,c0,⟨d0,d1,d2,d3,d4,d5,d6,d7,d8⟩,hi,hn⟩:=Fw.open h hl (un E).A;clear h hl;go_enter Tryz.func25,Tryz.ntmps25;go_upto_region 1 with fail
 try rw[hV]
 try rw[hg]
 clear hV hg c0 d0 d1 d2 d3 d4 d5 d6 d7 d8 hi hn;obtain⟨c0,c1,c2,c3,c4,c5,c6,c7,c8⟩:=Fw.cs HF1;have HC:=sp_power (a:=(F i).a) (pn:=pn) (pk:=pk) (p:=(F i).p) (q:=(F i).q) (cn:=cn) (ck:=ck) (un E).o V;rw[<-(un E).p]at HC;go_wp2_with fail;refine HC.mono ?_;rintro e y1 ⟨rfl,hb⟩;have HF2:=Fw.call HF1 hb;clear HC hb HF1 c0 c1 c2 c3 c4 c5 c6 c7 c8;obtain⟨c0,c1,c2,c3,c4,c5,c6,c7,c8⟩:=Fw.cs HF2;rw[un hk]at c0;obtain⟨ad,e1,hck,k0⟩:=Fw.kid HF2 (j:=0) (by have:=un hq;omega);subst e1;rw[add_z]at k0;have j0:(0:Int)<((F i).q:Int):=by have:=un hq;omega
 have HC:=Fw.step HF2 (un H) px3;go_wp2_with fail;refine HC.mono ?_;rintro e y2 ⟨rfl,HF3⟩;clear HC HF2 c0 c1 c2 c3 c4 c5 c6 c7 c8 k0 j0;have HC:=Fw.say HF3 ⟨#[91]⟩ px2;go_wp2_with fail;refine HC.mono ?_;rintro e y3 ⟨rfl,HF4⟩;clear HC HF3;obtain⟨_,e1,-,k1⟩:=Fw.kid HF4 (j:=1) (by have:=un hq;omega);obtain rfl:=Option.some.inj e1;replace k1:World.cell? _ ⟨ad.block,ad.off+1,none⟩=_:=k1;have j1:((1:Nat):Int)<((F i).q:Int):=by have:=un hq;omega
 obtain⟨c0,c1,c2,c3,c4,c5,c6,c7,c8⟩:=Fw.cs HF4;have HC:=Fw.step HF4 (un H2) px1;go_wp2_with fail;refine HC.mono ?_;rintro e y4 ⟨rfl,HF5⟩;clear HC HF4 c0 c1 c2 c3 c4 c5 c6 c7 c8 k1 j1;have HC:=Fw.say HF5 ⟨#[93]⟩ px0;go_wp2_with fail;refine HC.mono ?_;rintro e y5 ⟨rfl,HF6⟩;clear HC HF5;go_wp2_with fail;exact⟨rfl,.tuple #[],by simp[results,Tryz.results25],rfl,Fw.done HF6 rfl⟩
theorem mx_33(hk:Hid ((F i).a.k=33)){pw:Int}(E:Hid (Xp w n cf cd F i pw))(hle:¬pw<le)(hq:Hid ((F i).q=1))(hx:Hid ((F i).a.x.size<=4000))(H:Hid (W1 w b cd n cf t 44 (.int .i64 ((F i).K 0)) (X))):W2 w b cd n cf t 25 (.int .i64 i) (.int .i64 le) (X++(46::byt (F i).a.x)):=by
 intro l W h hl;obtain⟨pn,cn,pk,ck,V,g,hV,hg,HF1,c0,⟨d0,d1,d2,d3,d4,d5,d6,d7,d8⟩,hi,hn⟩:=Fw.open h hl (un E).A;clear h hl;go_enter Tryz.func25,Tryz.ntmps25;go_upto_region 1 with fail
 try rw[hV]
 try rw[hg]
 clear hV hg c0 d0 d1 d2 d3 d4 d5 d6 d7 d8 hi hn;obtain⟨c0,c1,c2,c3,c4,c5,c6,c7,c8⟩:=Fw.cs HF1;have HC:=sp_power (a:=(F i).a) (pn:=pn) (pk:=pk) (p:=(F i).p) (q:=(F i).q) (cn:=cn) (ck:=ck) (un E).o V;rw[<-(un E).p]at HC;go_wp2_with fail;refine HC.mono ?_;rintro e y1 ⟨rfl,hb⟩;have HF2:=Fw.call HF1 hb;clear HC hb HF1 c0 c1 c2 c3 c4 c5 c6 c7 c8;obtain⟨c0,c1,c2,c3,c4,c5,c6,c7,c8⟩:=Fw.cs HF2;rw[un hk]at c0;obtain⟨ad,e1,hck,k0⟩:=Fw.kid HF2 (j:=0) (by have:=un hq;omega);subst e1;rw[add_z]at k0;have j0:(0:Int)<((F i).q:Int):=by have:=un hq;omega
 have HC:=Fw.step HF2 (un H) px1;go_wp2_with fail;refine HC.mono ?_;rintro e y2 ⟨rfl,HF3⟩;clear HC HF2 c0 c1 c2 c3 c4 c5 c6 c7 c8 k0 j0;obtain⟨c0,c1,c2,c3,c4,c5,c6,c7,c8⟩:=Fw.cs HF3;obtain⟨z1,z2⟩:=cat3 (un hx) 1 1 (by decide) (by decide);have HC:=Fw.say HF3 (⟨#[46]⟩++(F i).a.x) px0;go_wp2_with fail;refine HC.mono ?_;rintro e y3 ⟨rfl,HF4⟩;clear HC HF3 c0 c1 c2 c3 c4 c5 c6 c7 c8 z1 z2;go_wp2_with fail;exact⟨rfl,.tuple #[],by simp[results,Tryz.results25],rfl,Fw.done HF4 rfl⟩
theorem mx_34(hk:Hid ((F i).a.k=34)){pw:Int}(E:Hid (Xp w n cf cd F i pw))(hle:¬pw<le){ts:Nat->List UInt8}(hq:Hid (1<=(F i).q))(H:Hid (W1 w b cd n cf t 44 (.int .i64 ((F i).K 0)) (X)))(H2:Hid (WL w b cd n cf t (λj=>(F i).K (1+j)) ((F i).q-1) ts)):W2 w b cd n cf t 25 (.int .i64 i) (.int .i64 le) (X++[40]++cmj ts ((F i).q-1)++[41]):=by
 intro l W h hl;obtain⟨pn,cn,pk,ck,V,g,hV,hg,HF1,c0,⟨d0,d1,d2,d3,d4,d5,d6,d7,d8⟩,hi,hn⟩:=Fw.open h hl (un E).A;clear h hl;go_enter Tryz.func25,Tryz.ntmps25;go_upto_region 1 with fail
 try rw[hV]
 try rw[hg]
 clear hV hg c0 d0 d1 d2 d3 d4 d5 d6 d7 d8 hi hn;obtain⟨c0,c1,c2,c3,c4,c5,c6,c7,c8⟩:=Fw.cs HF1;have HC:=sp_power (a:=(F i).a) (pn:=pn) (pk:=pk) (p:=(F i).p) (q:=(F i).q) (cn:=cn) (ck:=ck) (un E).o V;rw[<-(un E).p]at HC;go_wp2_with fail;refine HC.mono ?_;rintro e y1 ⟨rfl,hb⟩;have HF2:=Fw.call HF1 hb;clear HC hb HF1 c0 c1 c2 c3 c4 c5 c6 c7 c8;obtain⟨c0,c1,c2,c3,c4,c5,c6,c7,c8⟩:=Fw.cs HF2;rw[un hk]at c0;obtain⟨ad,e1,hck,k0⟩:=Fw.kid HF2 (j:=0) (by have:=un hq;omega);subst e1;rw[add_z]at k0;have j0:(0:Int)<((F i).q:Int):=by have:=un hq;omega
 have HC:=Fw.step HF2 (un H) px3;go_wp2_with fail;refine HC.mono ?_;rintro e y2 ⟨rfl,HF3⟩;clear HC HF2 c0 c1 c2 c3 c4 c5 c6 c7 c8 k0 j0;have HC:=Fw.say HF3 ⟨#[40]⟩ px2;go_wp2_with fail;refine HC.mono ?_;rintro e y3 ⟨rfl,HF4⟩;clear HC HF3;obtain⟨pa,ca,hs,HR⟩:=sl_from (un HF4).rk (m:=1) (by have:=un hq;omega) (rfl:(1:Int)=_);replace HR:Hid _:=HR;obtain⟨c0,c1,c2,c3,c4,c5,c6,c7,c8⟩:=Fw.cs HF4;have HC:=Fw.step HF4 ((un H2).go (un HR)) px1;go_wp2_with fail;refine HC.mono ?_;rintro e y4 ⟨rfl,HF5⟩;clear HC HF4 c0 c1 c2 c3 c4 c5 c6 c7 c8 hs HR;have HC:=Fw.say HF5 ⟨#[41]⟩ px0;go_wp2_with fail;refine HC.mono ?_;rintro e y5 ⟨rfl,HF6⟩;clear HC HF5;go_wp2_with fail;exact⟨rfl,.tuple #[],by simp[results,Tryz.results25],rfl,Fw.done HF6 rfl⟩
theorem mx_par{pw:Int}(E:Hid (Xp w n cf cd F i pw))(hle:pw<le)(H:Hid (W2 w b cd n cf t 25 (.int .i64 i) (.int .i64 0) (X))):W2 w b cd n cf t 25 (.int .i64 i) (.int .i64 le) ([40]++X++[41]):=by
 intro l W h hl;obtain⟨pn,cn,pk,ck,V,g,hV,hg,HF1,c0,⟨d0,d1,d2,d3,d4,d5,d6,d7,d8⟩,hi,hn⟩:=Fw.open h hl (un E).A;clear h hl;go_enter Tryz.func25,Tryz.ntmps25;go_upto_region 1 with fail
 try rw[hV]
 try rw[hg]
 clear hV hg c0 d0 d1 d2 d3 d4 d5 d6 d7 d8 hi hn;obtain⟨c0,c1,c2,c3,c4,c5,c6,c7,c8⟩:=Fw.cs HF1;have HC:=sp_power (a:=(F i).a) (pn:=pn) (pk:=pk) (p:=(F i).p) (q:=(F i).q) (cn:=cn) (ck:=ck) (un E).o V;rw[<-(un E).p]at HC;go_wp2_with fail;refine HC.mono ?_;rintro e y1 ⟨rfl,hb⟩;have HF2:=Fw.call HF1 hb;clear HC hb HF1 c0 c1 c2 c3 c4 c5 c6 c7 c8;obtain⟨c0,c1,c2,c3,c4,c5,c6,c7,c8⟩:=Fw.cs HF2;have HC:=Fw.say HF2 ⟨#[40]⟩ px2;go_wp2_with fail;refine HC.mono ?_;rintro e y2 ⟨rfl,HF3⟩;clear HC HF2 c0 c1 c2 c3 c4 c5 c6 c7 c8;have HC:=Fw.step HF3 (un H) px1;go_wp2_with fail;refine HC.mono ?_;rintro e y3 ⟨rfl,HF4⟩;clear HC HF3;have HC:=Fw.say HF4 ⟨#[41]⟩ px0;go_wp2_with fail;refine HC.mono ?_;rintro e y4 ⟨rfl,HF5⟩;clear HC HF4;go_wp2_with fail;exact⟨rfl,.tuple #[],by simp[results,Tryz.results25],rfl,Fw.done HF5 rfl⟩
theorem mx_pln{pw:Int}(E:Hid (Xp w n cf cd F i pw))(hle:¬pw<le)(hk:Hid (20<=(F i).a.k/\(F i).a.k<=27))(H:Hid (∀pn cn pk ck,RowV w (.slice pn (F i).p cn) (F i).p (λj=>.string ((F i).A j))->RowV w (.slice pk (F i).q ck) (F i).q (λj=>.int .i64 ((F i).K j))->Cw w b (.slice (some cd) n cf) t 46 #[.pointer (some ⟨b,0,none⟩),fmv (F i).a (.slice pn (F i).p cn) (.slice pk (F i).q ck)] (X))):W2 w b cd n cf t 25 (.int .i64 i) (.int .i64 le) (X):=by
 intro l W h hl;obtain⟨pn,cn,pk,ck,V,g,hV,hg,HF1,c0,⟨d0,d1,d2,d3,d4,d5,d6,d7,d8⟩,hi,hn⟩:=Fw.open h hl (un E).A;clear h hl;go_enter Tryz.func25,Tryz.ntmps25;go_upto_region 1 with fail
 try rw[hV]
 try rw[hg]
 clear hV hg c0 d0 d1 d2 d3 d4 d5 d6 d7 d8 hi hn;obtain⟨c0,c1,c2,c3,c4,c5,c6,c7,c8⟩:=Fw.cs HF1;have HC:=sp_power (a:=(F i).a) (pn:=pn) (pk:=pk) (p:=(F i).p) (q:=(F i).q) (cn:=cn) (ck:=ck) (un E).o V;rw[<-(un E).p]at HC;go_wp2_with fail;refine HC.mono ?_;rintro e y1 ⟨rfl,hb⟩;have HF2:=Fw.call HF1 hb;clear HC hb HF1 c0 c1 c2 c3 c4 c5 c6 c7 c8;obtain⟨c0,c1,c2,c3,c4,c5,c6,c7,c8⟩:=Fw.cs HF2;have hkk:=un hk;have n28:((F i).a.k==28)=false:=by rw[beq_eq_false_iff_ne];omega
 have n29:((F i).a.k==29)=false:=by rw[beq_eq_false_iff_ne];omega
 have n31:((F i).a.k==31)=false:=by rw[beq_eq_false_iff_ne];omega
 have n30:((F i).a.k==30)=false:=by rw[beq_eq_false_iff_ne];omega
 have n32:((F i).a.k==32)=false:=by rw[beq_eq_false_iff_ne];omega
 have n33:((F i).a.k==33)=false:=by rw[beq_eq_false_iff_ne];omega
 have n34:((F i).a.k==34)=false:=by rw[beq_eq_false_iff_ne];omega
 have n35:((F i).a.k==35)=false:=by rw[beq_eq_false_iff_ne];omega
 have n36:((F i).a.k==36)=false:=by rw[beq_eq_false_iff_ne];omega
 have n37:((F i).a.k==37)=false:=by rw[beq_eq_false_iff_ne];omega
 clear hkk;have HC:=Fw.step HF2 ((un H) _ _ _ _ (un HF2).rn (un HF2).rk) px0;unfold fmv at HC
 try rw[un hk]at HC
 go_wp2_with fail;refine HC.mono ?_;rintro e y2 ⟨rfl,HF3⟩;clear HC HF2 c0 c1 c2 c3 c4 c5 c6 c7 c8 n28 n29 n31 n30 n32 n33 n34 n35 n36 n37;go_wp2_with fail;exact⟨rfl,.tuple #[],by simp[results,Tryz.results25],rfl,Fw.done HF3 rfl⟩
theorem ml_20(hk:Hid ((F i).a.k=20)):∀pn cn pk ck,RowV w (.slice pn (F i).p cn) (F i).p (λj=>.string ((F i).A j))->RowV w (.slice pk (F i).q ck) (F i).q (λj=>.int .i64 ((F i).K j))->Cw w b (.slice (some cd) n cf) t 46 #[.pointer (some ⟨b,0,none⟩),fmv (F i).a (.slice pn (F i).p cn) (.slice pk (F i).q ck)] ([110,105,108]):=by
 intro pn cn pk ck rn rk l W h hl;obtain⟨V,g,hV,hg,HF1⟩:=Fw.start h hl rn rk;clear h hl rn rk;unfold fmv;go_enter Tryz.func46,Tryz.ntmps46;go_upto_region 1 with fail
 try rw[hV]
 try rw[hg]
 clear hV hg;obtain⟨c0,c1,c2,c3,c4,c5,c6,c7,c8⟩:=Fw.cs HF1;rw[un hk]at c0;have HC:=Fw.say HF1 ⟨#[110,105,108]⟩ px0;go_wp2_with fail;refine HC.mono ?_;rintro e y1 ⟨rfl,HF2⟩;clear HC HF1 c0 c1 c2 c3 c4 c5 c6 c7 c8;go_wp2_with fail;exact⟨rfl,.tuple #[],by simp[results,Tryz.results46],rfl,Fw.done HF2 rfl⟩
theorem ml_21(hk:Hid ((F i).a.k=21)):∀pn cn pk ck,RowV w (.slice pn (F i).p cn) (F i).p (λj=>.string ((F i).A j))->RowV w (.slice pk (F i).q ck) (F i).q (λj=>.int .i64 ((F i).K j))->Cw w b (.slice (some cd) n cf) t 46 #[.pointer (some ⟨b,0,none⟩),fmv (F i).a (.slice pn (F i).p cn) (.slice pk (F i).q ck)] ([116,114,117,101]):=by
 intro pn cn pk ck rn rk l W h hl;obtain⟨V,g,hV,hg,HF1⟩:=Fw.start h hl rn rk;clear h hl rn rk;unfold fmv;go_enter Tryz.func46,Tryz.ntmps46;go_upto_region 1 with fail
 try rw[hV]
 try rw[hg]
 clear hV hg;obtain⟨c0,c1,c2,c3,c4,c5,c6,c7,c8⟩:=Fw.cs HF1;rw[un hk]at c0;have HC:=Fw.say HF1 ⟨#[116,114,117,101]⟩ px0;go_wp2_with fail;refine HC.mono ?_;rintro e y1 ⟨rfl,HF2⟩;clear HC HF1 c0 c1 c2 c3 c4 c5 c6 c7 c8;go_wp2_with fail;exact⟨rfl,.tuple #[],by simp[results,Tryz.results46],rfl,Fw.done HF2 rfl⟩
theorem ml_22(hk:Hid ((F i).a.k=22)):∀pn cn pk ck,RowV w (.slice pn (F i).p cn) (F i).p (λj=>.string ((F i).A j))->RowV w (.slice pk (F i).q ck) (F i).q (λj=>.int .i64 ((F i).K j))->Cw w b (.slice (some cd) n cf) t 46 #[.pointer (some ⟨b,0,none⟩),fmv (F i).a (.slice pn (F i).p cn) (.slice pk (F i).q ck)] ([102,97,108,115,101]):=by
 intro pn cn pk ck rn rk l W h hl;obtain⟨V,g,hV,hg,HF1⟩:=Fw.start h hl rn rk;clear h hl rn rk;unfold fmv;go_enter Tryz.func46,Tryz.ntmps46;go_upto_region 1 with fail
 try rw[hV]
 try rw[hg]
 clear hV hg;obtain⟨c0,c1,c2,c3,c4,c5,c6,c7,c8⟩:=Fw.cs HF1;rw[un hk]at c0;have HC:=Fw.say HF1 ⟨#[102,97,108,115,101]⟩ px0;go_wp2_with fail;refine HC.mono ?_;rintro e y1 ⟨rfl,HF2⟩;clear HC HF1 c0 c1 c2 c3 c4 c5 c6 c7 c8;go_wp2_with fail;exact⟨rfl,.tuple #[],by simp[results,Tryz.results46],rfl,Fw.done HF2 rfl⟩
theorem ml_27(hk:Hid ((F i).a.k=27)):∀pn cn pk ck,RowV w (.slice pn (F i).p cn) (F i).p (λj=>.string ((F i).A j))->RowV w (.slice pk (F i).q ck) (F i).q (λj=>.int .i64 ((F i).K j))->Cw w b (.slice (some cd) n cf) t 46 #[.pointer (some ⟨b,0,none⟩),fmv (F i).a (.slice pn (F i).p cn) (.slice pk (F i).q ck)] ([46,46,46]):=by
 intro pn cn pk ck rn rk l W h hl;obtain⟨V,g,hV,hg,HF1⟩:=Fw.start h hl rn rk;clear h hl rn rk;unfold fmv;go_enter Tryz.func46,Tryz.ntmps46;go_upto_region 1 with fail
 try rw[hV]
 try rw[hg]
 clear hV hg;obtain⟨c0,c1,c2,c3,c4,c5,c6,c7,c8⟩:=Fw.cs HF1;rw[un hk]at c0;have HC:=Fw.say HF1 ⟨#[46,46,46]⟩ px0;go_wp2_with fail;refine HC.mono ?_;rintro e y1 ⟨rfl,HF2⟩;clear HC HF1 c0 c1 c2 c3 c4 c5 c6 c7 c8;go_wp2_with fail;exact⟨rfl,.tuple #[],by simp[results,Tryz.results46],rfl,Fw.done HF2 rfl⟩
theorem ml_24(hk:Hid ((F i).a.k=24)):∀pn cn pk ck,RowV w (.slice pn (F i).p cn) (F i).p (λj=>.string ((F i).A j))->RowV w (.slice pk (F i).q ck) (F i).q (λj=>.int .i64 ((F i).K j))->Cw w b (.slice (some cd) n cf) t 46 #[.pointer (some ⟨b,0,none⟩),fmv (F i).a (.slice pn (F i).p cn) (.slice pk (F i).q ck)] (byt (F i).a.x):=by
 intro pn cn pk ck rn rk l W h hl;obtain⟨V,g,hV,hg,HF1⟩:=Fw.start h hl rn rk;clear h hl rn rk;unfold fmv;go_enter Tryz.func46,Tryz.ntmps46;go_upto_region 1 with fail
 try rw[hV]
 try rw[hg]
 clear hV hg;obtain⟨c0,c1,c2,c3,c4,c5,c6,c7,c8⟩:=Fw.cs HF1;rw[un hk]at c0;have HC:=Fw.say HF1 (F i).a.x px0;go_wp2_with fail;refine HC.mono ?_;rintro e y1 ⟨rfl,HF2⟩;clear HC HF1 c0 c1 c2 c3 c4 c5 c6 c7 c8;go_wp2_with fail;exact⟨rfl,.tuple #[],by simp[results,Tryz.results46],rfl,Fw.done HF2 rfl⟩
theorem ml_26(hk:Hid ((F i).a.k=26)):∀pn cn pk ck,RowV w (.slice pn (F i).p cn) (F i).p (λj=>.string ((F i).A j))->RowV w (.slice pk (F i).q ck) (F i).q (λj=>.int .i64 ((F i).K j))->Cw w b (.slice (some cd) n cf) t 46 #[.pointer (some ⟨b,0,none⟩),fmv (F i).a (.slice pn (F i).p cn) (.slice pk (F i).q ck)] (byt (F i).a.x):=by
 intro pn cn pk ck rn rk l W h hl;obtain⟨V,g,hV,hg,HF1⟩:=Fw.start h hl rn rk;clear h hl rn rk;unfold fmv;go_enter Tryz.func46,Tryz.ntmps46;go_upto_region 1 with fail
 try rw[hV]
 try rw[hg]
 clear hV hg;obtain⟨c0,c1,c2,c3,c4,c5,c6,c7,c8⟩:=Fw.cs HF1;rw[un hk]at c0;have HC:=Fw.say HF1 (F i).a.x px0;go_wp2_with fail;refine HC.mono ?_;rintro e y1 ⟨rfl,HF2⟩;clear HC HF1 c0 c1 c2 c3 c4 c5 c6 c7 c8;go_wp2_with fail;exact⟨rfl,.tuple #[],by simp[results,Tryz.results46],rfl,Fw.done HF2 rfl⟩
theorem ml_23(hk:Hid ((F i).a.k=23))(H:Hid (∀W,Calls Tryz.prog 80 #[.int .i64 (F i).a.m] W λe w2=>e=.returned (.string s)/\Below W.heap.size W w2)):∀pn cn pk ck,RowV w (.slice pn (F i).p cn) (F i).p (λj=>.string ((F i).A j))->RowV w (.slice pk (F i).q ck) (F i).q (λj=>.int .i64 ((F i).K j))->Cw w b (.slice (some cd) n cf) t 46 #[.pointer (some ⟨b,0,none⟩),fmv (F i).a (.slice pn (F i).p cn) (.slice pk (F i).q ck)] (byt s):=by
 intro pn cn pk ck rn rk l W h hl;obtain⟨V,g,hV,hg,HF1⟩:=Fw.start h hl rn rk;clear h hl rn rk;unfold fmv;go_enter Tryz.func46,Tryz.ntmps46;go_upto_region 1 with fail
 try rw[hV]
 try rw[hg]
 clear hV hg;obtain⟨c0,c1,c2,c3,c4,c5,c6,c7,c8⟩:=Fw.cs HF1;rw[un hk]at c0;have HC:=(un H) V;go_wp2_with fail;refine HC.mono ?_;rintro e y1 ⟨rfl,hb⟩;have HF2:=Fw.call HF1 hb;clear HC hb HF1 c0 c1 c2 c3 c4 c5 c6 c7 c8;have HC:=Fw.say HF2 s px0;go_wp2_with fail;refine HC.mono ?_;rintro e y2 ⟨rfl,HF3⟩;clear HC HF2;go_wp2_with fail;exact⟨rfl,.tuple #[],by simp[results,Tryz.results46],rfl,Fw.done HF3 rfl⟩
theorem ml_25(hk:Hid ((F i).a.k=25))(H:Hid (∀W,Calls Tryz.prog 81 #[.string (F i).a.x] W λe w2=>e=.returned (.string s)/\Below W.heap.size W w2)):∀pn cn pk ck,RowV w (.slice pn (F i).p cn) (F i).p (λj=>.string ((F i).A j))->RowV w (.slice pk (F i).q ck) (F i).q (λj=>.int .i64 ((F i).K j))->Cw w b (.slice (some cd) n cf) t 46 #[.pointer (some ⟨b,0,none⟩),fmv (F i).a (.slice pn (F i).p cn) (.slice pk (F i).q ck)] (byt s):=by
 intro pn cn pk ck rn rk l W h hl;obtain⟨V,g,hV,hg,HF1⟩:=Fw.start h hl rn rk;clear h hl rn rk;unfold fmv;go_enter Tryz.func46,Tryz.ntmps46;go_upto_region 1 with fail
 try rw[hV]
 try rw[hg]
 clear hV hg;obtain⟨c0,c1,c2,c3,c4,c5,c6,c7,c8⟩:=Fw.cs HF1;rw[un hk]at c0;have HC:=(un H) V;go_wp2_with fail;refine HC.mono ?_;rintro e y1 ⟨rfl,hb⟩;have HF2:=Fw.call HF1 hb;clear HC hb HF1 c0 c1 c2 c3 c4 c5 c6 c7 c8;have HC:=Fw.say HF2 s px0;go_wp2_with fail;refine HC.mono ?_;rintro e y2 ⟨rfl,HF3⟩;clear HC HF2;go_wp2_with fail;exact⟨rfl,.tuple #[],by simp[results,Tryz.results46],rfl,Fw.done HF3 rfl⟩
theorem md_0(A:Am w n cf cd F i)(ho:Hid ((F i).a.o=0))(hp:Hid ((F i).p<=200))(hq:Hid ((F i).q=1))(H:Hid (W1 w b cd n cf t 22 (.int .i64 ((F i).K 0)) (X))):W1 w b cd n cf t 26 (.int .i64 i) ([40]++nms (F i)++[41,32]++X):=by
 intro l W h hl;obtain⟨pn,cn,pk,ck,V,g,hV,hg,HF1,c0,⟨d0,d1,d2,d3,d4,d5,d6,d7,d8⟩,hi,hn⟩:=Fw.open h hl A;clear h hl A;go_enter Tryz.func26,Tryz.ntmps26;go_upto_region 1 with fail
 try rw[hV]
 try rw[hg]
 clear hV hg c0 d0 d1 d2 d3 d4 d5 d6 d7 d8 hi hn;have HC:=Fw.say HF1 ⟨#[40]⟩ px3;go_wp2_with fail;refine HC.mono ?_;rintro e y1 ⟨rfl,HF2⟩;clear HC HF1;obtain⟨c0,c1,c2,c3,c4,c5,c6,c7,c8⟩:=Fw.cs HF2;have HC:=Fw.nms HF2 (by have:=un hp;omega) px2;go_wp2_with fail;refine HC.mono ?_;rintro e y2 ⟨rfl,HF3⟩;clear HC HF2 c0 c1 c2 c3 c4 c5 c6 c7 c8;obtain⟨c0,c1,c2,c3,c4,c5,c6,c7,c8⟩:=Fw.cs HF3;rw[un ho]at c4;have HC:=Fw.say HF3 ⟨#[41,32]⟩ px1;go_wp2_with fail;refine HC.mono ?_;rintro e y3 ⟨rfl,HF4⟩;clear HC HF3 c0 c1 c2 c3 c4 c5 c6 c7 c8;obtain⟨ad,e1,hck,k0⟩:=Fw.kid HF4 (j:=0) (by have:=un hq;omega);subst e1;rw[add_z]at k0;have j0:(0:Int)<((F i).q:Int):=by have:=un hq;omega
 obtain⟨c0,c1,c2,c3,c4,c5,c6,c7,c8⟩:=Fw.cs HF4;have HC:=Fw.step HF4 (un H) px0;go_wp2_with fail;refine HC.mono ?_;rintro e y4 ⟨rfl,HF5⟩;clear HC HF4 c0 c1 c2 c3 c4 c5 c6 c7 c8 k0 j0;go_wp2_with fail;exact⟨rfl,.tuple #[],by simp[results,Tryz.results26],rfl,Fw.done HF5 rfl⟩
theorem md_1(A:Am w n cf cd F i)(ho:Hid ((F i).a.o=1))(hz:Hid ((F i).p=0))(hp:Hid ((F i).p<=200))(hq:Hid ((F i).q=1))(H:Hid (W1 w b cd n cf t 22 (.int .i64 ((F i).K 0)) (X))):W1 w b cd n cf t 26 (.int .i64 i) ([40]++nms (F i)++[46,46,46]++[41,32]++X):=by
 intro l W h hl;obtain⟨pn,cn,pk,ck,V,g,hV,hg,HF1,c0,⟨d0,d1,d2,d3,d4,d5,d6,d7,d8⟩,hi,hn⟩:=Fw.open h hl A;clear h hl A;go_enter Tryz.func26,Tryz.ntmps26;go_upto_region 1 with fail
 try rw[hV]
 try rw[hg]
 clear hV hg c0 d0 d1 d2 d3 d4 d5 d6 d7 d8 hi hn;have HC:=Fw.say HF1 ⟨#[40]⟩ px4;go_wp2_with fail;refine HC.mono ?_;rintro e y1 ⟨rfl,HF2⟩;clear HC HF1;obtain⟨c0,c1,c2,c3,c4,c5,c6,c7,c8⟩:=Fw.cs HF2;have HC:=Fw.nms HF2 (by have:=un hp;omega) px3;go_wp2_with fail;refine HC.mono ?_;rintro e y2 ⟨rfl,HF3⟩;clear HC HF2 c0 c1 c2 c3 c4 c5 c6 c7 c8;obtain⟨c0,c1,c2,c3,c4,c5,c6,c7,c8⟩:=Fw.cs HF3;rw[un ho]at c4;rw[un hz]at c7;have HC:=Fw.say HF3 ⟨#[46,46,46]⟩ px2;go_wp2_with fail;refine HC.mono ?_;rintro e y3 ⟨rfl,HF4⟩;clear HC HF3 c0 c1 c2 c3 c4 c5 c6 c7 c8;have HC:=Fw.say HF4 ⟨#[41,32]⟩ px1;go_wp2_with fail;refine HC.mono ?_;rintro e y4 ⟨rfl,HF5⟩;clear HC HF4;obtain⟨ad,e1,hck,k0⟩:=Fw.kid HF5 (j:=0) (by have:=un hq;omega);subst e1;rw[add_z]at k0;have j0:(0:Int)<((F i).q:Int):=by have:=un hq;omega
 obtain⟨c0,c1,c2,c3,c4,c5,c6,c7,c8⟩:=Fw.cs HF5;have HC:=Fw.step HF5 (un H) px0;go_wp2_with fail;refine HC.mono ?_;rintro e y5 ⟨rfl,HF6⟩;clear HC HF5 c0 c1 c2 c3 c4 c5 c6 c7 c8 k0 j0;go_wp2_with fail;exact⟨rfl,.tuple #[],by simp[results,Tryz.results26],rfl,Fw.done HF6 rfl⟩
theorem md_2(A:Am w n cf cd F i)(ho:Hid ((F i).a.o=1))(hz:Hid (0<(F i).p))(hp:Hid ((F i).p<=200))(hq:Hid ((F i).q=1))(H:Hid (W1 w b cd n cf t 22 (.int .i64 ((F i).K 0)) (X))):W1 w b cd n cf t 26 (.int .i64 i) ([40]++nms (F i)++[44,32]++[46,46,46]++[41,32]++X):=by
 intro l W h hl;obtain⟨pn,cn,pk,ck,V,g,hV,hg,HF1,c0,⟨d0,d1,d2,d3,d4,d5,d6,d7,d8⟩,hi,hn⟩:=Fw.open h hl A;clear h hl A;go_enter Tryz.func26,Tryz.ntmps26;go_upto_region 1 with fail
 try rw[hV]
 try rw[hg]
 clear hV hg c0 d0 d1 d2 d3 d4 d5 d6 d7 d8 hi hn;have HC:=Fw.say HF1 ⟨#[40]⟩ px5;go_wp2_with fail;refine HC.mono ?_;rintro e y1 ⟨rfl,HF2⟩;clear HC HF1;obtain⟨c0,c1,c2,c3,c4,c5,c6,c7,c8⟩:=Fw.cs HF2;have HC:=Fw.nms HF2 (by have:=un hp;omega) px4;go_wp2_with fail;refine HC.mono ?_;rintro e y2 ⟨rfl,HF3⟩;clear HC HF2 c0 c1 c2 c3 c4 c5 c6 c7 c8;obtain⟨c0,c1,c2,c3,c4,c5,c6,c7,c8⟩:=Fw.cs HF3;rw[un ho]at c4;have hp0:(0:Int)<((F i).p:Int):=by have:=un hz;omega
 have HC:=Fw.say HF3 ⟨#[44,32]⟩ px3;go_wp2_with fail;refine HC.mono ?_;rintro e y3 ⟨rfl,HF4⟩;clear HC HF3 c0 c1 c2 c3 c4 c5 c6 c7 c8;have HC:=Fw.say HF4 ⟨#[46,46,46]⟩ px2;go_wp2_with fail;refine HC.mono ?_;rintro e y4 ⟨rfl,HF5⟩;clear HC HF4;clear hp0;have HC:=Fw.say HF5 ⟨#[41,32]⟩ px1;go_wp2_with fail;refine HC.mono ?_;rintro e y5 ⟨rfl,HF6⟩;clear HC HF5;obtain⟨ad,e1,hck,k0⟩:=Fw.kid HF6 (j:=0) (by have:=un hq;omega);subst e1;rw[add_z]at k0;have j0:(0:Int)<((F i).q:Int):=by have:=un hq;omega
 obtain⟨c0,c1,c2,c3,c4,c5,c6,c7,c8⟩:=Fw.cs HF6;have HC:=Fw.step HF6 (un H) px0;go_wp2_with fail;refine HC.mono ?_;rintro e y6 ⟨rfl,HF7⟩;clear HC HF6 c0 c1 c2 c3 c4 c5 c6 c7 c8 k0 j0;go_wp2_with fail;exact⟨rfl,.tuple #[],by simp[results,Tryz.results26],rfl,Fw.done HF7 rfl⟩
theorem mu_21(ho:Hid ((F i).a.o=21))(hq:Hid ((F i).q=1))(H:Hid (W2 w b cd n cf t 25 (.int .i64 ((F i).K 0)) (.int .i64 11) (X))):∀pn cn pk ck,RowV w (.slice pn (F i).p cn) (F i).p (λj=>.string ((F i).A j))->RowV w (.slice pk (F i).q ck) (F i).q (λj=>.int .i64 ((F i).K j))->Cw w b (.slice (some cd) n cf) t 43 #[.pointer (some ⟨b,0,none⟩),fmv (F i).a (.slice pn (F i).p cn) (.slice pk (F i).q ck)] ([110,111,116,32]++X):=by
 intro pn cn pk ck rn rk l W h hl;obtain⟨V,g,hV,hg,HF1⟩:=Fw.start h hl rn rk;clear h hl rn rk;unfold fmv;go_enter Tryz.func43,Tryz.ntmps43;go_upto_region 1 with fail
 try rw[hV]
 try rw[hg]
 clear hV hg;obtain⟨c0,c1,c2,c3,c4,c5,c6,c7,c8⟩:=Fw.cs HF1;rw[un ho]at c4;have HC:=Fw.say HF1 ⟨#[110,111,116,32]⟩ px1;go_wp2_with fail;refine HC.mono ?_;rintro e y1 ⟨rfl,HF2⟩;clear HC HF1 c0 c1 c2 c3 c4 c5 c6 c7 c8;obtain⟨ad,e1,hck,k0⟩:=Fw.kid HF2 (j:=0) (by have:=un hq;omega);subst e1;rw[add_z]at k0;have j0:(0:Int)<((F i).q:Int):=by have:=un hq;omega
 obtain⟨c0,c1,c2,c3,c4,c5,c6,c7,c8⟩:=Fw.cs HF2;have HC:=Fw.step HF2 (un H) px0;go_wp2_with fail;refine HC.mono ?_;rintro e y2 ⟨rfl,HF3⟩;clear HC HF2 c0 c1 c2 c3 c4 c5 c6 c7 c8 k0 j0;go_wp2_with fail;exact⟨rfl,.tuple #[],by simp[results,Tryz.results43],rfl,Fw.done HF3 rfl⟩
theorem mu_22(ho:Hid ((F i).a.o=22))(hq:Hid ((F i).q=1))(H:Hid (W2 w b cd n cf t 25 (.int .i64 ((F i).K 0)) (.int .i64 11) (X))):∀pn cn pk ck,RowV w (.slice pn (F i).p cn) (F i).p (λj=>.string ((F i).A j))->RowV w (.slice pk (F i).q ck) (F i).q (λj=>.int .i64 ((F i).K j))->Cw w b (.slice (some cd) n cf) t 43 #[.pointer (some ⟨b,0,none⟩),fmv (F i).a (.slice pn (F i).p cn) (.slice pk (F i).q ck)] ([35]++X):=by
 intro pn cn pk ck rn rk l W h hl;obtain⟨V,g,hV,hg,HF1⟩:=Fw.start h hl rn rk;clear h hl rn rk;unfold fmv;go_enter Tryz.func43,Tryz.ntmps43;go_upto_region 1 with fail
 try rw[hV]
 try rw[hg]
 clear hV hg;obtain⟨c0,c1,c2,c3,c4,c5,c6,c7,c8⟩:=Fw.cs HF1;rw[un ho]at c4;have HC:=Fw.say HF1 ⟨#[35]⟩ px1;go_wp2_with fail;refine HC.mono ?_;rintro e y1 ⟨rfl,HF2⟩;clear HC HF1 c0 c1 c2 c3 c4 c5 c6 c7 c8;obtain⟨ad,e1,hck,k0⟩:=Fw.kid HF2 (j:=0) (by have:=un hq;omega);subst e1;rw[add_z]at k0;have j0:(0:Int)<((F i).q:Int):=by have:=un hq;omega
 obtain⟨c0,c1,c2,c3,c4,c5,c6,c7,c8⟩:=Fw.cs HF2;have HC:=Fw.step HF2 (un H) px0;go_wp2_with fail;refine HC.mono ?_;rintro e y2 ⟨rfl,HF3⟩;clear HC HF2 c0 c1 c2 c3 c4 c5 c6 c7 c8 k0 j0;go_wp2_with fail;exact⟨rfl,.tuple #[],by simp[results,Tryz.results43],rfl,Fw.done HF3 rfl⟩
theorem mu_20(ho:Hid ((F i).a.o=20))(hq:Hid ((F i).q=1))(H:Hid (W2 w b cd n cf t 25 (.int .i64 ((F i).K 0)) (.int .i64 11) (X))):∀pn cn pk ck,RowV w (.slice pn (F i).p cn) (F i).p (λj=>.string ((F i).A j))->RowV w (.slice pk (F i).q ck) (F i).q (λj=>.int .i64 ((F i).K j))->Cw w b (.slice (some cd) n cf) t 43 #[.pointer (some ⟨b,0,none⟩),fmv (F i).a (.slice pn (F i).p cn) (.slice pk (F i).q ck)] ([126]++X):=by
 intro pn cn pk ck rn rk l W h hl;obtain⟨V,g,hV,hg,HF1⟩:=Fw.start h hl rn rk;clear h hl rn rk;unfold fmv;go_enter Tryz.func43,Tryz.ntmps43;go_upto_region 1 with fail
 try rw[hV]
 try rw[hg]
 clear hV hg;obtain⟨c0,c1,c2,c3,c4,c5,c6,c7,c8⟩:=Fw.cs HF1;rw[un ho]at c4;have HC:=Fw.say HF1 ⟨#[126]⟩ px1;go_wp2_with fail;refine HC.mono ?_;rintro e y1 ⟨rfl,HF2⟩;clear HC HF1 c0 c1 c2 c3 c4 c5 c6 c7 c8;obtain⟨ad,e1,hck,k0⟩:=Fw.kid HF2 (j:=0) (by have:=un hq;omega);subst e1;rw[add_z]at k0;have j0:(0:Int)<((F i).q:Int):=by have:=un hq;omega
 obtain⟨c0,c1,c2,c3,c4,c5,c6,c7,c8⟩:=Fw.cs HF2;have HC:=Fw.step HF2 (un H) px0;go_wp2_with fail;refine HC.mono ?_;rintro e y2 ⟨rfl,HF3⟩;clear HC HF2 c0 c1 c2 c3 c4 c5 c6 c7 c8 k0 j0;go_wp2_with fail;exact⟨rfl,.tuple #[],by simp[results,Tryz.results43],rfl,Fw.done HF3 rfl⟩
