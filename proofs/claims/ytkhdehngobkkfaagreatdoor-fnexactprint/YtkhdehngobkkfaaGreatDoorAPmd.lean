import Derived.Test.YtkhdehngobkkfaaGreatDoorAPmc
set_option maxHeartbeats 16000000
namespace Go.Proofs.YtkhdehngobkkfaaGreatDoor.Fo
open Go.ChangeShapes Go.WideShapes Go.ChangeAt Go.RowKit
set_option linter.unusedVariables false
set_option maxRecDepth 100000
variable {w W:World}{b t n i cf kk p:Nat}{fs:Value}{l X Y Z:List UInt8}{cd:Addr}{F:Nat->Gv}{s:ByteArray}{pw rp:Int}{ts:Nat->List UInt8}
theorem Fw.third{wr V:World}{g cn ck:Nat}{pn pk:Option Addr}{T:List UInt8}{G:Gv}{TT:List UInt8}(h:Hid (Fw w b fs t l W g G pn cn pk ck TT T wr)){o:Obj}(hV:(wr.alloc o).drew=V):Hid (Fw w b fs t l W g G pn cn pk ck TT T V):=by
 rw[<-hV];exact Fw.call (Fw.call h (bel1 wr o)) (be_drew _)
theorem Cel9.both{a:Addr}{f:Fv}{vn vk:Value}(h:Cel9 w a f vn vk)(hb:Below w.heap.size w W):Cel9 W a f vn vk/\∀o,Cel9 (W.alloc o) a f vn vk:=⟨h.below hb,λo=>(h.below hb).below (bel1 W o)⟩
theorem mr_2(hq:Hid ((F i).q=2))(HX:Hid (W2 w b cd n cf t 25 (.int .i64 ((F i).K 0)) (.int .i64 0) (X)))(HY:Hid (W1 w b cd n cf t 22 (.int .i64 ((F i).K 1)) (Y))):∀pn cn pk ck,RowV w (.slice pn (F i).p cn) (F i).p (λj=>.string ((F i).A j))->RowV w (.slice pk (F i).q ck) (F i).q (λj=>.int .i64 ((F i).K j))->Cw w b (.slice (some cd) n cf) t 27 #[.pointer (some ⟨b,0,none⟩),fmv (F i).a (.slice pn (F i).p cn) (.slice pk (F i).q ck),.string s] (byt s++X++[32]++Y):=by
 intro pn cn pk ck rn rk l W h hl;obtain⟨V,g,hV,hg,HF1⟩:=Fw.start h hl rn rk;clear h hl rn rk;unfold fmv;go_enter Tryz.func27,Tryz.ntmps27;go_upto_region 1 with fail
 try rw[hV]
 try rw[hg]
 clear hV hg;obtain⟨c0,c1,c2,c3,c4,c5,c6,c7,c8⟩:=Fw.cs HF1;have HC:=Fw.say HF1 s px3;go_wp2_with fail;refine HC.mono ?_;rintro e y1 ⟨rfl,HF2⟩;clear HC HF1 c0 c1 c2 c3 c4 c5 c6 c7 c8;obtain⟨ad,e1,hck,k0⟩:=Fw.kid HF2 (j:=0) (by have:=un hq;omega);subst e1;rw[add_z]at k0;have j0:(0:Int)<((F i).q:Int):=by have:=un hq;omega
 obtain⟨c0,c1,c2,c3,c4,c5,c6,c7,c8⟩:=Fw.cs HF2;have HC:=Fw.step HF2 (un HX) px2;go_wp2_with fail;refine HC.mono ?_;rintro e y2 ⟨rfl,HF3⟩;clear HC HF2 c0 c1 c2 c3 c4 c5 c6 c7 c8 k0 j0;obtain⟨c0,c1,c2,c3,c4,c5,c6,c7,c8⟩:=Fw.cs HF3;have HC:=Fw.say HF3 ⟨#[32]⟩ px1;go_wp2_with fail;refine HC.mono ?_;rintro e y3 ⟨rfl,HF4⟩;clear HC HF3 c0 c1 c2 c3 c4 c5 c6 c7 c8;obtain⟨_,e1,-,k1⟩:=Fw.kid HF4 (j:=1) (by have:=un hq;omega);obtain rfl:=Option.some.inj e1;replace k1:World.cell? _ ⟨ad.block,ad.off+1,none⟩=_:=k1;have j1:((1:Nat):Int)<((F i).q:Int):=by have:=un hq;omega
 obtain⟨c0,c1,c2,c3,c4,c5,c6,c7,c8⟩:=Fw.cs HF4;have HC:=Fw.step HF4 (un HY) px0;go_wp2_with fail;refine HC.mono ?_;rintro e y4 ⟨rfl,HF5⟩;clear HC HF4 c0 c1 c2 c3 c4 c5 c6 c7 c8 k1 j1;obtain⟨c0,c1,c2,c3,c4,c5,c6,c7,c8⟩:=Fw.cs HF5;have h3:((F i).q:Int)<3:=by have:=un hq;omega
 go_wp2_with fail;exact⟨rfl,.tuple #[],by simp[results,Tryz.results27],rfl,Fw.done HF5 rfl⟩
theorem mr_3(hq:Hid ((F i).q=3))(HX:Hid (W2 w b cd n cf t 25 (.int .i64 ((F i).K 0)) (.int .i64 0) (X)))(HY:Hid (W1 w b cd n cf t 22 (.int .i64 ((F i).K 1)) (Y)))(A:Am w n cf cd F kk)(hkk:Hid ((F i).K 2=(kk:Int)))(hz:Hid (¬(F kk).a.k=7))(HZ:Hid (W1 w b cd n cf t 22 (.int .i64 kk) (Z))):∀pn cn pk ck,RowV w (.slice pn (F i).p cn) (F i).p (λj=>.string ((F i).A j))->RowV w (.slice pk (F i).q ck) (F i).q (λj=>.int .i64 ((F i).K j))->Cw w b (.slice (some cd) n cf) t 27 #[.pointer (some ⟨b,0,none⟩),fmv (F i).a (.slice pn (F i).p cn) (.slice pk (F i).q ck),.string s] (byt s++X++[32]++Y++[32,101,108,115,101,32]++Z):=by
 intro pn cn pk ck rn rk l W h hl;obtain⟨V,g,hV,hg,HF1⟩:=Fw.start h hl rn rk;clear h hl rn rk;unfold fmv;go_enter Tryz.func27,Tryz.ntmps27;go_upto_region 1 with fail
 try rw[hV]
 try rw[hg]
 clear hV hg;obtain⟨c0,c1,c2,c3,c4,c5,c6,c7,c8⟩:=Fw.cs HF1;have HC:=Fw.say HF1 s px5;go_wp2_with fail;refine HC.mono ?_;rintro e y1 ⟨rfl,HF2⟩;clear HC HF1 c0 c1 c2 c3 c4 c5 c6 c7 c8;obtain⟨ad,e1,hck,k0⟩:=Fw.kid HF2 (j:=0) (by have:=un hq;omega);subst e1;rw[add_z]at k0;have j0:(0:Int)<((F i).q:Int):=by have:=un hq;omega
 obtain⟨c0,c1,c2,c3,c4,c5,c6,c7,c8⟩:=Fw.cs HF2;have HC:=Fw.step HF2 (un HX) px4;go_wp2_with fail;refine HC.mono ?_;rintro e y2 ⟨rfl,HF3⟩;clear HC HF2 c0 c1 c2 c3 c4 c5 c6 c7 c8 k0 j0;obtain⟨c0,c1,c2,c3,c4,c5,c6,c7,c8⟩:=Fw.cs HF3;have HC:=Fw.say HF3 ⟨#[32]⟩ px3;go_wp2_with fail;refine HC.mono ?_;rintro e y3 ⟨rfl,HF4⟩;clear HC HF3 c0 c1 c2 c3 c4 c5 c6 c7 c8;obtain⟨_,e1,-,k1⟩:=Fw.kid HF4 (j:=1) (by have:=un hq;omega);obtain rfl:=Option.some.inj e1;replace k1:World.cell? _ ⟨ad.block,ad.off+1,none⟩=_:=k1;have j1:((1:Nat):Int)<((F i).q:Int):=by have:=un hq;omega
 obtain⟨c0,c1,c2,c3,c4,c5,c6,c7,c8⟩:=Fw.cs HF4;have HC:=Fw.step HF4 (un HY) px2;go_wp2_with fail;refine HC.mono ?_;rintro e y4 ⟨rfl,HF5⟩;clear HC HF4 c0 c1 c2 c3 c4 c5 c6 c7 c8 k1 j1;obtain⟨c0,c1,c2,c3,c4,c5,c6,c7,c8⟩:=Fw.cs HF5;have h3:¬((F i).q:Int)<3:=by have:=un hq;omega
 obtain⟨ad2,e1,-,k2⟩:=Fw.kid HF5 (j:=2) (by have:=un hq;omega)
 first|obtain rfl:=Option.some.inj e1|(subst e1;obtain⟨ad,rfl⟩:∃ad,ad=ad2:=⟨_,rfl⟩)
 rw[un hkk]at k2;replace k2:World.cell? _ ⟨ad.block,ad.off+2,none⟩=_:=k2;have j2:(2:Int)<((F i).q:Int):=by have:=un hq;omega
 have hi:(kk:Int)<(n:Int):=by have:=A.hi;omega
 have hn:(n:Int)<=3000:=by have:=A.hn;omega
 have b0:=(un HF5).q.frm;obtain⟨p2,u2,p3,u3,h9,rn2,rk2,-⟩:=A.get;obtain⟨⟨d0,d1,d2,d3,d4,d5,d6,d7,d8⟩,h9⟩:=h9.both (un HF5).q.bel;have c8o:=λo=>(Fw.cs (Fw.call HF5 (bel1 y4 o))).2.2.2.2.2.2.2.2;have b0o:=λo=>(un (Fw.call HF5 (bel1 y4 o))).q.frm;have k2o:=λo=>((bel1 y4 o).cell (lt_of_cell' k2)).trans k2;have d0o:=λo=>(h9 o).c0;have d1o:=λo=>(h9 o).c1;have d2o:=λo=>(h9 o).c2;have d3o:=λo=>(h9 o).c3;have d4o:=λo=>(h9 o).c4;have d5o:=λo=>(h9 o).c5;have d6o:=λo=>(h9 o).c6;have d7o:=λo=>(h9 o).c7;have d8o:=λo=>(h9 o).c8;clear h9 c0 c1 c2 c3 c4 c5 c6 c7;go_upto_region 6 with fail
 go_region
 generalize hV2:World.drew _=V2;have HF6:=Fw.third HF5 hV2;have hB2:=new_cells hV2;have f0:V2.cell? ⟨_,0,none⟩=_:=cell_of hB2 rfl;have f1:V2.cell? ⟨_,1,none⟩=_:=cell_of hB2 rfl;have f2:V2.cell? ⟨_,2,none⟩=_:=cell_of hB2 rfl;have f3:V2.cell? ⟨_,3,none⟩=_:=cell_of hB2 rfl;have f4:V2.cell? ⟨_,4,none⟩=_:=cell_of hB2 rfl;have f5:V2.cell? ⟨_,5,none⟩=_:=cell_of hB2 rfl;have f6:V2.cell? ⟨_,6,none⟩=_:=cell_of hB2 rfl;have f7:V2.cell? ⟨_,7,none⟩=_:=cell_of hB2 rfl;have f8:V2.cell? ⟨_,8,none⟩=_:=cell_of hB2 rfl;clear hV2 hB2 HF5 hi hn b0 b0o c8 c8o k2 k2o j2 d0 d1 d2 d3 d4 d5 d6 d7 d8 d0o d1o d2o d3o d4o d5o d6o d7o d8o;have n7:((F kk).a.k==7)=false:=by rw[beq_eq_false_iff_ne];exact un hz
 have HC:=Fw.say HF6 ⟨#[32,101,108,115,101,32]⟩ px1;go_wp2_with fail;refine HC.mono ?_;rintro e y6 ⟨rfl,HF7⟩;clear HC HF6  n7 f0 f1 f2 f3 f4 f5 f6 f7 f8;obtain⟨_,e1,-,k2⟩:=Fw.kid HF7 (j:=2) (by have:=un hq;omega);obtain rfl:=Option.some.inj e1;replace k2:World.cell? _ ⟨ad.block,ad.off+2,none⟩=_:=k2;have j2:((2:Nat):Int)<((F i).q:Int):=by have:=un hq;omega
 rw[un hkk]at k2;obtain⟨c0,c1,c2,c3,c4,c5,c6,c7,c8⟩:=Fw.cs HF7;have HC:=Fw.step HF7 (un HZ) px0;go_wp2_with fail;refine HC.mono ?_;rintro e y7 ⟨rfl,HF8⟩;clear HC HF7 c0 c1 c2 c3 c4 c5 c6 c7 c8 k2 j2;go_wp2_with fail;exact⟨rfl,.tuple #[],by simp[results,Tryz.results27],rfl,Fw.done HF8 rfl⟩
theorem mr_e(hq:Hid ((F i).q=3))(HX:Hid (W2 w b cd n cf t 25 (.int .i64 ((F i).K 0)) (.int .i64 0) (X)))(HY:Hid (W1 w b cd n cf t 22 (.int .i64 ((F i).K 1)) (Y)))(A:Am w n cf cd F kk)(hkk:Hid ((F i).K 2=(kk:Int)))(hz:Hid ((F kk).a.k=7))(HZ:Hid (∀pn cn pk ck,RowV w (.slice pn (F kk).p cn) (F kk).p (λj=>.string ((F kk).A j))->RowV w (.slice pk (F kk).q ck) (F kk).q (λj=>.int .i64 ((F kk).K j))->Cw w b (.slice (some cd) n cf) t 27 #[.pointer (some ⟨b,0,none⟩),fmv (F kk).a (.slice pn (F kk).p cn) (.slice pk (F kk).q ck),.string ⟨#[32,101,108,105,102,32]⟩] (Z))):∀pn cn pk ck,RowV w (.slice pn (F i).p cn) (F i).p (λj=>.string ((F i).A j))->RowV w (.slice pk (F i).q ck) (F i).q (λj=>.int .i64 ((F i).K j))->Cw w b (.slice (some cd) n cf) t 27 #[.pointer (some ⟨b,0,none⟩),fmv (F i).a (.slice pn (F i).p cn) (.slice pk (F i).q ck),.string s] (byt s++X++[32]++Y++Z):=by
 intro pn cn pk ck rn rk l W h hl;obtain⟨V,g,hV,hg,HF1⟩:=Fw.start h hl rn rk;clear h hl rn rk;unfold fmv;go_enter Tryz.func27,Tryz.ntmps27;go_upto_region 1 with fail
 try rw[hV]
 try rw[hg]
 clear hV hg;obtain⟨c0,c1,c2,c3,c4,c5,c6,c7,c8⟩:=Fw.cs HF1;have HC:=Fw.say HF1 s px4;go_wp2_with fail;refine HC.mono ?_;rintro e y1 ⟨rfl,HF2⟩;clear HC HF1 c0 c1 c2 c3 c4 c5 c6 c7 c8;obtain⟨ad,e1,hck,k0⟩:=Fw.kid HF2 (j:=0) (by have:=un hq;omega);subst e1;rw[add_z]at k0;have j0:(0:Int)<((F i).q:Int):=by have:=un hq;omega
 obtain⟨c0,c1,c2,c3,c4,c5,c6,c7,c8⟩:=Fw.cs HF2;have HC:=Fw.step HF2 (un HX) px3;go_wp2_with fail;refine HC.mono ?_;rintro e y2 ⟨rfl,HF3⟩;clear HC HF2 c0 c1 c2 c3 c4 c5 c6 c7 c8 k0 j0;obtain⟨c0,c1,c2,c3,c4,c5,c6,c7,c8⟩:=Fw.cs HF3;have HC:=Fw.say HF3 ⟨#[32]⟩ px2;go_wp2_with fail;refine HC.mono ?_;rintro e y3 ⟨rfl,HF4⟩;clear HC HF3 c0 c1 c2 c3 c4 c5 c6 c7 c8;obtain⟨_,e1,-,k1⟩:=Fw.kid HF4 (j:=1) (by have:=un hq;omega);obtain rfl:=Option.some.inj e1;replace k1:World.cell? _ ⟨ad.block,ad.off+1,none⟩=_:=k1;have j1:((1:Nat):Int)<((F i).q:Int):=by have:=un hq;omega
 obtain⟨c0,c1,c2,c3,c4,c5,c6,c7,c8⟩:=Fw.cs HF4;have HC:=Fw.step HF4 (un HY) px1;go_wp2_with fail;refine HC.mono ?_;rintro e y4 ⟨rfl,HF5⟩;clear HC HF4 c0 c1 c2 c3 c4 c5 c6 c7 c8 k1 j1;obtain⟨c0,c1,c2,c3,c4,c5,c6,c7,c8⟩:=Fw.cs HF5;have h3:¬((F i).q:Int)<3:=by have:=un hq;omega
 obtain⟨ad2,e1,-,k2⟩:=Fw.kid HF5 (j:=2) (by have:=un hq;omega)
 first|obtain rfl:=Option.some.inj e1|(subst e1;obtain⟨ad,rfl⟩:∃ad,ad=ad2:=⟨_,rfl⟩)
 rw[un hkk]at k2;replace k2:World.cell? _ ⟨ad.block,ad.off+2,none⟩=_:=k2;have j2:(2:Int)<((F i).q:Int):=by have:=un hq;omega
 have hi:(kk:Int)<(n:Int):=by have:=A.hi;omega
 have hn:(n:Int)<=3000:=by have:=A.hn;omega
 have b0:=(un HF5).q.frm;obtain⟨p2,u2,p3,u3,h9,rn2,rk2,-⟩:=A.get;obtain⟨⟨d0,d1,d2,d3,d4,d5,d6,d7,d8⟩,h9⟩:=h9.both (un HF5).q.bel;have c8o:=λo=>(Fw.cs (Fw.call HF5 (bel1 y4 o))).2.2.2.2.2.2.2.2;have b0o:=λo=>(un (Fw.call HF5 (bel1 y4 o))).q.frm;have k2o:=λo=>((bel1 y4 o).cell (lt_of_cell' k2)).trans k2;have d0o:=λo=>(h9 o).c0;have d1o:=λo=>(h9 o).c1;have d2o:=λo=>(h9 o).c2;have d3o:=λo=>(h9 o).c3;have d4o:=λo=>(h9 o).c4;have d5o:=λo=>(h9 o).c5;have d6o:=λo=>(h9 o).c6;have d7o:=λo=>(h9 o).c7;have d8o:=λo=>(h9 o).c8;clear h9 c0 c1 c2 c3 c4 c5 c6 c7;go_upto_region 6 with fail
 go_region
 generalize hV2:World.drew _=V2;have HF6:=Fw.third HF5 hV2;have hB2:=new_cells hV2;have f0:V2.cell? ⟨_,0,none⟩=_:=cell_of hB2 rfl;have f1:V2.cell? ⟨_,1,none⟩=_:=cell_of hB2 rfl;have f2:V2.cell? ⟨_,2,none⟩=_:=cell_of hB2 rfl;have f3:V2.cell? ⟨_,3,none⟩=_:=cell_of hB2 rfl;have f4:V2.cell? ⟨_,4,none⟩=_:=cell_of hB2 rfl;have f5:V2.cell? ⟨_,5,none⟩=_:=cell_of hB2 rfl;have f6:V2.cell? ⟨_,6,none⟩=_:=cell_of hB2 rfl;have f7:V2.cell? ⟨_,7,none⟩=_:=cell_of hB2 rfl;have f8:V2.cell? ⟨_,8,none⟩=_:=cell_of hB2 rfl;clear hV2 hB2 HF5 hi hn b0 b0o c8 c8o k2 k2o j2 d0 d1 d2 d3 d4 d5 d6 d7 d8 d0o d1o d2o d3o d4o d5o d6o d7o d8o;rw[un hz]at f0;have HC:=Fw.step HF6 ((un HZ) _ _ _ _ rn2 rk2) px0;unfold fmv at HC;rw[un hz]at HC;go_wp2_with fail;refine HC.mono ?_;rintro e y6 ⟨rfl,HF7⟩;clear HC HF6  f0 f1 f2 f3 f4 f5 f6 f7 f8;go_wp2_with fail;exact⟨rfl,.tuple #[],by simp[results,Tryz.results27],rfl,Fw.done HF7 rfl⟩
theorem mu_19a(A:Am w n cf cd F kk)(ho:Hid ((F i).a.o=19))(hq:Hid ((F i).q=1))(hkk:Hid ((F i).K 0=(kk:Int)))(hz:Hid (¬((F kk).a.k=30/\(F kk).a.o=19)))(H:Hid (W2 w b cd n cf t 25 (.int .i64 kk) (.int .i64 11) (X))):∀pn cn pk ck,RowV w (.slice pn (F i).p cn) (F i).p (λj=>.string ((F i).A j))->RowV w (.slice pk (F i).q ck) (F i).q (λj=>.int .i64 ((F i).K j))->Cw w b (.slice (some cd) n cf) t 43 #[.pointer (some ⟨b,0,none⟩),fmv (F i).a (.slice pn (F i).p cn) (.slice pk (F i).q ck)] ([45]++X):=by
 intro pn cn pk ck rn rk l W h hl;obtain⟨V,g,hV,hg,HF1⟩:=Fw.start h hl rn rk;clear h hl rn rk;unfold fmv;go_enter Tryz.func43,Tryz.ntmps43;go_upto_region 1 with fail
 try rw[hV]
 try rw[hg]
 clear hV hg;obtain⟨c0,c1,c2,c3,c4,c5,c6,c7,c8⟩:=Fw.cs HF1;rw[un ho]at c4;have HC:=Fw.say HF1 ⟨#[45]⟩ px1;go_wp2_with fail;refine HC.mono ?_;rintro e y1 ⟨rfl,HF2⟩;clear HC HF1 c0 c1 c2 c3 c4 c5 c6 c7 c8;obtain⟨c0,c1,c2,c3,c4,c5,c6,c7,c8⟩:=Fw.cs HF2;obtain⟨ad2,e1,-,k0⟩:=Fw.kid HF2 (j:=0) (by have:=un hq;omega)
 first|obtain rfl:=Option.some.inj e1|(subst e1;obtain⟨ad,rfl⟩:∃ad,ad=ad2:=⟨_,rfl⟩)
 rw[un hkk]at k0;rw[add_z]at k0;have j0:(0:Int)<((F i).q:Int):=by have:=un hq;omega
 have hi:(kk:Int)<(n:Int):=by have:=A.hi;omega
 have hn:(n:Int)<=3000:=by have:=A.hn;omega
 have b0:=(un HF2).q.frm;obtain⟨p2,u2,p3,u3,h9,rn2,rk2,-⟩:=A.get;obtain⟨⟨d0,d1,d2,d3,d4,d5,d6,d7,d8⟩,h9⟩:=h9.both (un HF2).q.bel;have c8o:=λo=>(Fw.cs (Fw.call HF2 (bel1 y1 o))).2.2.2.2.2.2.2.2;have b0o:=λo=>(un (Fw.call HF2 (bel1 y1 o))).q.frm;have k0o:=λo=>((bel1 y1 o).cell (lt_of_cell' k0)).trans k0;have d0o:=λo=>(h9 o).c0;have d1o:=λo=>(h9 o).c1;have d2o:=λo=>(h9 o).c2;have d3o:=λo=>(h9 o).c3;have d4o:=λo=>(h9 o).c4;have d5o:=λo=>(h9 o).c5;have d6o:=λo=>(h9 o).c6;have d7o:=λo=>(h9 o).c7;have d8o:=λo=>(h9 o).c8;clear h9 c0 c1 c2 c3 c4 c5 c6 c7;go_upto_region 3 with fail
 go_region
 generalize hV2:World.drew _=V2;have HF3:=Fw.third HF2 hV2;have hB2:=new_cells hV2;have f0:V2.cell? ⟨_,0,none⟩=_:=cell_of hB2 rfl;have f1:V2.cell? ⟨_,1,none⟩=_:=cell_of hB2 rfl;have f2:V2.cell? ⟨_,2,none⟩=_:=cell_of hB2 rfl;have f3:V2.cell? ⟨_,3,none⟩=_:=cell_of hB2 rfl;have f4:V2.cell? ⟨_,4,none⟩=_:=cell_of hB2 rfl;have f5:V2.cell? ⟨_,5,none⟩=_:=cell_of hB2 rfl;have f6:V2.cell? ⟨_,6,none⟩=_:=cell_of hB2 rfl;have f7:V2.cell? ⟨_,7,none⟩=_:=cell_of hB2 rfl;have f8:V2.cell? ⟨_,8,none⟩=_:=cell_of hB2 rfl;clear hV2 hB2 HF2 hi hn b0 b0o c8 c8o k0 k0o j0 d0 d1 d2 d3 d4 d5 d6 d7 d8 d0o d1o d2o d3o d4o d5o d6o d7o d8o;obtain⟨_,e1,-,k0⟩:=Fw.kid HF3 (j:=0) (by have:=un hq;omega);obtain rfl:=Option.some.inj e1;rw[add_z]at k0;have j0:((0:Nat):Int)<((F i).q:Int):=by have:=un hq;omega
 rw[un hkk]at k0;obtain⟨c0,c1,c2,c3,c4,c5,c6,c7,c8⟩:=Fw.cs HF3
 have hor:((F kk).a.k=30/\((F kk).a.o==19)=false)\/((F kk).a.k==30)=false:=by
  by_cases h:(F kk).a.k=30
  ·exact .inl ⟨h,by rw[beq_eq_false_iff_ne];exact λe=>un hz ⟨h,e⟩⟩
  ·exact .inr (by rw[beq_eq_false_iff_ne];exact h)
 rcases hor with⟨h30,n19⟩|n30
 ·rw[h30]at f0;clear h30;have HC:=Fw.step HF3 (un H) px0;go_wp2_with fail;refine HC.mono ?_;rintro e y3 ⟨rfl,HF4⟩;clear HC HF3 c0 c1 c2 c3 c4 c5 c6 c7 c8 k0 j0;go_wp2_with fail;exact⟨rfl,.tuple #[],by simp[results,Tryz.results43],rfl,Fw.done HF4 rfl⟩
 ·skip
  have HC:=Fw.step HF3 (un H) px0;go_wp2_with fail;refine HC.mono ?_;rintro e y3 ⟨rfl,HF4⟩;clear HC HF3 c0 c1 c2 c3 c4 c5 c6 c7 c8 k0 j0;go_wp2_with fail;exact⟨rfl,.tuple #[],by simp[results,Tryz.results43],rfl,Fw.done HF4 rfl⟩
theorem mu_19b(A:Am w n cf cd F kk)(ho:Hid ((F i).a.o=19))(hq:Hid ((F i).q=1))(hkk:Hid ((F i).K 0=(kk:Int)))(hz:Hid ((F kk).a.k=30/\(F kk).a.o=19))(H:Hid (W2 w b cd n cf t 25 (.int .i64 kk) (.int .i64 11) (X))):∀pn cn pk ck,RowV w (.slice pn (F i).p cn) (F i).p (λj=>.string ((F i).A j))->RowV w (.slice pk (F i).q ck) (F i).q (λj=>.int .i64 ((F i).K j))->Cw w b (.slice (some cd) n cf) t 43 #[.pointer (some ⟨b,0,none⟩),fmv (F i).a (.slice pn (F i).p cn) (.slice pk (F i).q ck)] ([45]++[32]++X):=by
 intro pn cn pk ck rn rk l W h hl;obtain⟨V,g,hV,hg,HF1⟩:=Fw.start h hl rn rk;clear h hl rn rk;unfold fmv;go_enter Tryz.func43,Tryz.ntmps43;go_upto_region 1 with fail
 try rw[hV]
 try rw[hg]
 clear hV hg;obtain⟨c0,c1,c2,c3,c4,c5,c6,c7,c8⟩:=Fw.cs HF1;rw[un ho]at c4;have HC:=Fw.say HF1 ⟨#[45]⟩ px2;go_wp2_with fail;refine HC.mono ?_;rintro e y1 ⟨rfl,HF2⟩;clear HC HF1 c0 c1 c2 c3 c4 c5 c6 c7 c8;obtain⟨c0,c1,c2,c3,c4,c5,c6,c7,c8⟩:=Fw.cs HF2;obtain⟨ad2,e1,-,k0⟩:=Fw.kid HF2 (j:=0) (by have:=un hq;omega)
 first|obtain rfl:=Option.some.inj e1|(subst e1;obtain⟨ad,rfl⟩:∃ad,ad=ad2:=⟨_,rfl⟩)
 rw[un hkk]at k0;rw[add_z]at k0;have j0:(0:Int)<((F i).q:Int):=by have:=un hq;omega
 have hi:(kk:Int)<(n:Int):=by have:=A.hi;omega
 have hn:(n:Int)<=3000:=by have:=A.hn;omega
 have b0:=(un HF2).q.frm;obtain⟨p2,u2,p3,u3,h9,rn2,rk2,-⟩:=A.get;obtain⟨⟨d0,d1,d2,d3,d4,d5,d6,d7,d8⟩,h9⟩:=h9.both (un HF2).q.bel;have c8o:=λo=>(Fw.cs (Fw.call HF2 (bel1 y1 o))).2.2.2.2.2.2.2.2;have b0o:=λo=>(un (Fw.call HF2 (bel1 y1 o))).q.frm;have k0o:=λo=>((bel1 y1 o).cell (lt_of_cell' k0)).trans k0;have d0o:=λo=>(h9 o).c0;have d1o:=λo=>(h9 o).c1;have d2o:=λo=>(h9 o).c2;have d3o:=λo=>(h9 o).c3;have d4o:=λo=>(h9 o).c4;have d5o:=λo=>(h9 o).c5;have d6o:=λo=>(h9 o).c6;have d7o:=λo=>(h9 o).c7;have d8o:=λo=>(h9 o).c8;clear h9 c0 c1 c2 c3 c4 c5 c6 c7;go_upto_region 3 with fail
 go_region
 generalize hV2:World.drew _=V2;have HF3:=Fw.third HF2 hV2;have hB2:=new_cells hV2;have f0:V2.cell? ⟨_,0,none⟩=_:=cell_of hB2 rfl;have f1:V2.cell? ⟨_,1,none⟩=_:=cell_of hB2 rfl;have f2:V2.cell? ⟨_,2,none⟩=_:=cell_of hB2 rfl;have f3:V2.cell? ⟨_,3,none⟩=_:=cell_of hB2 rfl;have f4:V2.cell? ⟨_,4,none⟩=_:=cell_of hB2 rfl;have f5:V2.cell? ⟨_,5,none⟩=_:=cell_of hB2 rfl;have f6:V2.cell? ⟨_,6,none⟩=_:=cell_of hB2 rfl;have f7:V2.cell? ⟨_,7,none⟩=_:=cell_of hB2 rfl;have f8:V2.cell? ⟨_,8,none⟩=_:=cell_of hB2 rfl;clear hV2 hB2 HF2 hi hn b0 b0o c8 c8o k0 k0o j0 d0 d1 d2 d3 d4 d5 d6 d7 d8 d0o d1o d2o d3o d4o d5o d6o d7o d8o;rw[(un hz).1]at f0;rw[(un hz).2]at f4;have HC:=Fw.say HF3 ⟨#[32]⟩ px1;go_wp2_with fail;refine HC.mono ?_;rintro e y3 ⟨rfl,HF4⟩;clear HC HF3  f0 f1 f2 f3 f4 f5 f6 f7 f8;obtain⟨_,e1,-,k0⟩:=Fw.kid HF4 (j:=0) (by have:=un hq;omega);obtain rfl:=Option.some.inj e1;rw[add_z]at k0;have j0:((0:Nat):Int)<((F i).q:Int):=by have:=un hq;omega
 rw[un hkk]at k0;obtain⟨c0,c1,c2,c3,c4,c5,c6,c7,c8⟩:=Fw.cs HF4;have HC:=Fw.step HF4 (un H) px0;go_wp2_with fail;refine HC.mono ?_;rintro e y4 ⟨rfl,HF5⟩;clear HC HF4 c0 c1 c2 c3 c4 c5 c6 c7 c8 k0 j0;go_wp2_with fail;exact⟨rfl,.tuple #[],by simp[results,Tryz.results43],rfl,Fw.done HF5 rfl⟩
theorem mi_yes(hk:Hid ((F i).a.k=28\/(F i).a.k=29\/(F i).a.k=31))(ho:Hid ((F i).a.k=31->1<=(F i).a.o/\(F i).a.o<=18))(hq:Hid ((F i).q=2))(hp:Hid (pw<=12/\1<=pw/\rp=rpf (F i).a))(he:(rp==pw)=true)(HX:Hid (W2 w b cd n cf t 25 (.int .i64 ((F i).K 0)) (.int .i64 (pw+1)) (X)))(HY:Hid (W2 w b cd n cf t 25 (.int .i64 ((F i).K 1)) (.int .i64 rp) (Y))):∀pn cn pk ck,RowV w (.slice pn (F i).p cn) (F i).p (λj=>.string ((F i).A j))->RowV w (.slice pk (F i).q ck) (F i).q (λj=>.int .i64 ((F i).K j))->Cw w b (.slice (some cd) n cf) t 41 #[.pointer (some ⟨b,0,none⟩),fmv (F i).a (.slice pn (F i).p cn) (.slice pk (F i).q ck),.string s,.int .i64 pw] (X++byt s++Y):=by
 intro pn cn pk ck rn rk l W h hl;obtain⟨V,g,hV,hg,HF1⟩:=Fw.start h hl rn rk;clear h hl rn rk;unfold fmv;go_enter Tryz.func41,Tryz.ntmps41;go_upto_region 1 with fail
 try rw[hV]
 try rw[hg]
 clear hV hg;obtain⟨c0,c1,c2,c3,c4,c5,c6,c7,c8⟩:=Fw.cs HF1;have HC:=sp_right (a:=(F i).a) (pn:=pn) (pk:=pk) (p:=(F i).p) (q:=(F i).q) (cn:=cn) (ck:=ck) (un hk) (un ho) V;rw[<-(un hp).2.2]at HC;have hov:IntKind.i64.wrap (pw+1)=pw+1:=by have:=un hp;rw[IntKind.wrap_i64];omega
 go_wp2_with fail;refine HC.mono ?_;rintro e y1 ⟨rfl,hb⟩;have HF2:=Fw.call HF1 hb;clear HC hb HF1 c0 c1 c2 c3 c4 c5 c6 c7 c8;obtain⟨ad,e1,hck,k0⟩:=Fw.kid HF2 (j:=0) (by have:=un hq;omega);subst e1;rw[add_z]at k0;have j0:(0:Int)<((F i).q:Int):=by have:=un hq;omega
 obtain⟨c0,c1,c2,c3,c4,c5,c6,c7,c8⟩:=Fw.cs HF2;have HC:=Fw.step HF2 (un HX) px2;go_wp2_with fail;refine HC.mono ?_;rintro e y2 ⟨rfl,HF3⟩;clear HC HF2 c0 c1 c2 c3 c4 c5 c6 c7 c8 k0 j0 he hov;have HC:=Fw.say HF3 s px1;go_wp2_with fail;refine HC.mono ?_;rintro e y3 ⟨rfl,HF4⟩;clear HC HF3;obtain⟨_,e1,-,k1⟩:=Fw.kid HF4 (j:=1) (by have:=un hq;omega);obtain rfl:=Option.some.inj e1;replace k1:World.cell? _ ⟨ad.block,ad.off+1,none⟩=_:=k1;have j1:((1:Nat):Int)<((F i).q:Int):=by have:=un hq;omega
 obtain⟨c0,c1,c2,c3,c4,c5,c6,c7,c8⟩:=Fw.cs HF4;have HRI:Hid (∀W,Calls Tryz.prog 75 #[.agg #[.int .i64 (F i).a.k,.int .i64 (F i).a.f,.int .i64 (F i).a.t,.int .i64 (F i).a.l,.int .i64 (F i).a.o,.int .i64 (F i).a.m,.string (F i).a.x,.slice pn (F i).p cn,.slice (some ad) (F i).q ck]] W λe w'=>e=.returned (.int .i64 rp)/\Below W.heap.size W w'):=(λW=>by rw[(un hp).2.2];exact sp_right (a:=(F i).a) (pn:=pn) (pk:=(some ad)) (p:=(F i).p) (q:=(F i).q) (cn:=cn) (ck:=ck) (un hk) (un ho) W:∀W,_)
 have HFD:=Fw.call HF4 (be_drew y3);go_upto_region 6 with fail
 go_region_held_law (λW'=>W'.cell? ⟨g,0,none⟩=some (.int .i64 (F i).a.k)/\W'.cell? ⟨g,1,none⟩=some (.int .i64 (F i).a.f)/\W'.cell? ⟨g,2,none⟩=some (.int .i64 (F i).a.t)/\W'.cell? ⟨g,3,none⟩=some (.int .i64 (F i).a.l)/\W'.cell? ⟨g,4,none⟩=some (.int .i64 (F i).a.o)/\W'.cell? ⟨g,5,none⟩=some (.int .i64 (F i).a.m)/\W'.cell? ⟨g,6,none⟩=some (.string (F i).a.x)/\W'.cell? ⟨g,7,none⟩=some (.slice pn (F i).p cn)/\W'.cell? ⟨g,8,none⟩=some (.slice (some ad) (F i).q ck)/\W'.cell? ⟨ad.block,ad.off+1,none⟩=some (.int .i64 ((F i).K 1))) (first|exact⟨v0,v1,v2,v3,v4,v5,v6,v7,v8,v9⟩|exact⟨x0,x1,x2,x3,x4,x5,x6,x7,x8,x9⟩|exact⟨c0,c1,c2,c3,c4,c5,c6,c7,c8,k1⟩) ((first|(go_at_call 75;refine((uh HRI) _).mono ?_;rintro e z1 ⟨rfl,hb⟩;have HFE:=Fw.call HFD hb;obtain⟨x0,x1,x2,x3,x4,x5,x6,x7,x8⟩:=Fw.cs HFE;have x9:=(hb.cell (lt_of_cell' k1)).trans k1;clear hb)|(go_at_call 25;refine(Fw.step HFE (un HY) px0).mono ?_;rintro e z2 ⟨rfl,HFF⟩;obtain⟨v0,v1,v2,v3,v4,v5,v6,v7,v8⟩:=Fw.cs HFF;obtain⟨_,e2,-,v9⟩:=Fw.kid HFF (j:=1) (by have:=un hq;omega);obtain rfl:=Option.some.inj e2)))
 all_goals exact⟨rfl,.tuple #[],by simp[results,Tryz.results41],rfl,Fw.done HFF rfl⟩
theorem mi_no(hk:Hid ((F i).a.k=28\/(F i).a.k=29\/(F i).a.k=31))(ho:Hid ((F i).a.k=31->1<=(F i).a.o/\(F i).a.o<=18))(hq:Hid ((F i).q=2))(hp:Hid (pw<=12/\1<=pw/\rp=rpf (F i).a))(he:(rp==pw)=false)(HX:Hid (W2 w b cd n cf t 25 (.int .i64 ((F i).K 0)) (.int .i64 pw) (X)))(HY:Hid (W2 w b cd n cf t 25 (.int .i64 ((F i).K 1)) (.int .i64 rp) (Y))):∀pn cn pk ck,RowV w (.slice pn (F i).p cn) (F i).p (λj=>.string ((F i).A j))->RowV w (.slice pk (F i).q ck) (F i).q (λj=>.int .i64 ((F i).K j))->Cw w b (.slice (some cd) n cf) t 41 #[.pointer (some ⟨b,0,none⟩),fmv (F i).a (.slice pn (F i).p cn) (.slice pk (F i).q ck),.string s,.int .i64 pw] (X++byt s++Y):=by
 intro pn cn pk ck rn rk l W h hl;obtain⟨V,g,hV,hg,HF1⟩:=Fw.start h hl rn rk;clear h hl rn rk;unfold fmv;go_enter Tryz.func41,Tryz.ntmps41;go_upto_region 1 with fail
 try rw[hV]
 try rw[hg]
 clear hV hg;obtain⟨c0,c1,c2,c3,c4,c5,c6,c7,c8⟩:=Fw.cs HF1;have HC:=sp_right (a:=(F i).a) (pn:=pn) (pk:=pk) (p:=(F i).p) (q:=(F i).q) (cn:=cn) (ck:=ck) (un hk) (un ho) V;rw[<-(un hp).2.2]at HC;go_wp2_with fail;refine HC.mono ?_;rintro e y1 ⟨rfl,hb⟩;have HF2:=Fw.call HF1 hb;clear HC hb HF1 c0 c1 c2 c3 c4 c5 c6 c7 c8;obtain⟨ad,e1,hck,k0⟩:=Fw.kid HF2 (j:=0) (by have:=un hq;omega);subst e1;rw[add_z]at k0;have j0:(0:Int)<((F i).q:Int):=by have:=un hq;omega
 obtain⟨c0,c1,c2,c3,c4,c5,c6,c7,c8⟩:=Fw.cs HF2;have HC:=Fw.step HF2 (un HX) px2;go_wp2_with fail;refine HC.mono ?_;rintro e y2 ⟨rfl,HF3⟩;clear HC HF2 c0 c1 c2 c3 c4 c5 c6 c7 c8 k0 j0 he;have HC:=Fw.say HF3 s px1;go_wp2_with fail;refine HC.mono ?_;rintro e y3 ⟨rfl,HF4⟩;clear HC HF3;obtain⟨_,e1,-,k1⟩:=Fw.kid HF4 (j:=1) (by have:=un hq;omega);obtain rfl:=Option.some.inj e1;replace k1:World.cell? _ ⟨ad.block,ad.off+1,none⟩=_:=k1;have j1:((1:Nat):Int)<((F i).q:Int):=by have:=un hq;omega
 obtain⟨c0,c1,c2,c3,c4,c5,c6,c7,c8⟩:=Fw.cs HF4;have HRI:Hid (∀W,Calls Tryz.prog 75 #[.agg #[.int .i64 (F i).a.k,.int .i64 (F i).a.f,.int .i64 (F i).a.t,.int .i64 (F i).a.l,.int .i64 (F i).a.o,.int .i64 (F i).a.m,.string (F i).a.x,.slice pn (F i).p cn,.slice (some ad) (F i).q ck]] W λe w'=>e=.returned (.int .i64 rp)/\Below W.heap.size W w'):=(λW=>by rw[(un hp).2.2];exact sp_right (a:=(F i).a) (pn:=pn) (pk:=(some ad)) (p:=(F i).p) (q:=(F i).q) (cn:=cn) (ck:=ck) (un hk) (un ho) W:∀W,_)
 have HFD:=Fw.call HF4 (be_drew y3);go_upto_region 6 with fail
 go_region_held_law (λW'=>W'.cell? ⟨g,0,none⟩=some (.int .i64 (F i).a.k)/\W'.cell? ⟨g,1,none⟩=some (.int .i64 (F i).a.f)/\W'.cell? ⟨g,2,none⟩=some (.int .i64 (F i).a.t)/\W'.cell? ⟨g,3,none⟩=some (.int .i64 (F i).a.l)/\W'.cell? ⟨g,4,none⟩=some (.int .i64 (F i).a.o)/\W'.cell? ⟨g,5,none⟩=some (.int .i64 (F i).a.m)/\W'.cell? ⟨g,6,none⟩=some (.string (F i).a.x)/\W'.cell? ⟨g,7,none⟩=some (.slice pn (F i).p cn)/\W'.cell? ⟨g,8,none⟩=some (.slice (some ad) (F i).q ck)/\W'.cell? ⟨ad.block,ad.off+1,none⟩=some (.int .i64 ((F i).K 1))) (first|exact⟨v0,v1,v2,v3,v4,v5,v6,v7,v8,v9⟩|exact⟨x0,x1,x2,x3,x4,x5,x6,x7,x8,x9⟩|exact⟨c0,c1,c2,c3,c4,c5,c6,c7,c8,k1⟩) ((first|(go_at_call 75;refine((uh HRI) _).mono ?_;rintro e z1 ⟨rfl,hb⟩;have HFE:=Fw.call HFD hb;obtain⟨x0,x1,x2,x3,x4,x5,x6,x7,x8⟩:=Fw.cs HFE;have x9:=(hb.cell (lt_of_cell' k1)).trans k1;clear hb)|(go_at_call 25;refine(Fw.step HFE (un HY) px0).mono ?_;rintro e z2 ⟨rfl,HFF⟩;obtain⟨v0,v1,v2,v3,v4,v5,v6,v7,v8⟩:=Fw.cs HFF;obtain⟨_,e2,-,v9⟩:=Fw.kid HFF (j:=1) (by have:=un hq;omega);obtain rfl:=Option.some.inj e2)))
 all_goals exact⟨rfl,.tuple #[],by simp[results,Tryz.results41],rfl,Fw.done HFF rfl⟩
theorem mx_31(hk:Hid ((F i).a.k=31)){le:Int}(E:Hid (Xp w n cf cd F i pw))(hle:¬pw<le)(hs:Hid (s.size<=100))(HT:Hid (∀W,Calls Tryz.prog 42 #[.int .i64 (60+(F i).a.o)] W λe w2=>e=.returned (.string s)/\Below W.heap.size W w2))(H:Hid (∀pn cn pk ck,RowV w (.slice pn (F i).p cn) (F i).p (λj=>.string ((F i).A j))->RowV w (.slice pk (F i).q ck) (F i).q (λj=>.int .i64 ((F i).K j))->Cw w b (.slice (some cd) n cf) t 41 #[.pointer (some ⟨b,0,none⟩),fmv (F i).a (.slice pn (F i).p cn) (.slice pk (F i).q ck),.string (⟨#[32]⟩++s++⟨#[32]⟩),.int .i64 pw] (X))):W2 w b cd n cf t 25 (.int .i64 i) (.int .i64 le) (X):=by
 intro l W h hl;obtain⟨pn,cn,pk,ck,V,g,hV,hg,HF1,c0,⟨d0,d1,d2,d3,d4,d5,d6,d7,d8⟩,hi,hn⟩:=Fw.open h hl (un E).A;clear h hl;go_enter Tryz.func25,Tryz.ntmps25;go_upto_region 1 with fail
 try rw[hV]
 try rw[hg]
 clear hV hg c0 d0 d1 d2 d3 d4 d5 d6 d7 d8 hi hn;obtain⟨c0,c1,c2,c3,c4,c5,c6,c7,c8⟩:=Fw.cs HF1;have HC:=sp_power (a:=(F i).a) (pn:=pn) (pk:=pk) (p:=(F i).p) (q:=(F i).q) (cn:=cn) (ck:=ck) (un E).o V;rw[<-(un E).p]at HC;go_wp2_with fail;refine HC.mono ?_;rintro e y1 ⟨rfl,hb⟩;have HF2:=Fw.call HF1 hb;clear HC hb HF1 c0 c1 c2 c3 c4 c5 c6 c7 c8;obtain⟨c0,c1,c2,c3,c4,c5,c6,c7,c8⟩:=Fw.cs HF2;rw[un hk]at c0;have hov:IntKind.i64.wrap (60+(F i).a.o)=60+(F i).a.o:=by have:=(un E).o (un hk);rw[IntKind.wrap_i64];omega
 have z1:¬9223372036854775807<1+s.size:=by have:=un hs;omega
 have z2:¬9223372036854775807<1+s.size+1:=by have:=un hs;omega
 have HFD:=Fw.call HF2 (be_drew y1);go_upto_region 13 with fail
 go_region_held_law (λW'=>W'.cell? ⟨g,0,none⟩=some (.int .i64 31)/\W'.cell? ⟨g,1,none⟩=some (.int .i64 (F i).a.f)/\W'.cell? ⟨g,2,none⟩=some (.int .i64 (F i).a.t)/\W'.cell? ⟨g,3,none⟩=some (.int .i64 (F i).a.l)/\W'.cell? ⟨g,4,none⟩=some (.int .i64 (F i).a.o)/\W'.cell? ⟨g,5,none⟩=some (.int .i64 (F i).a.m)/\W'.cell? ⟨g,6,none⟩=some (.string (F i).a.x)/\W'.cell? ⟨g,7,none⟩=some (.slice pn (F i).p cn)/\W'.cell? ⟨g,8,none⟩=some (.slice pk (F i).q ck)) (first|exact v|exact x|exact⟨c0,c1,c2,c3,c4,c5,c6,c7,c8⟩) ((first|(go_at_call 42;refine((uh HT) _).mono ?_;rintro e z1 ⟨rfl,hb⟩;have HFE:=Fw.call HFD hb;have x:=Fw.cs HFE;rw[un hk]at x;clear hb)|(have HC:=Fw.step HFE ((un H) _ _ _ _ (un HFE).rn (un HFE).rk) px0;unfold fmv at HC;rw[un hk]at HC;go_at_call 41;refine HC.mono ?_;rintro e z2 ⟨rfl,HFF⟩;have v:=Fw.cs HFF;rw[un hk]at v)))
 go_wp2_with fail;exact⟨rfl,.tuple #[],by simp[results,Tryz.results25],rfl,Fw.done HFF rfl⟩
theorem cmj_pre(ts:Nat->List UInt8)(h:i<=p):cmj ts i<+:cmj ts p:=by
 induction p with
 |zero=>
  obtain rfl:i=0:=by omega
  exact List.prefix_refl _
 |succ p ih=>
  by_cases e:i=p+1
  ·subst e;exact List.prefix_refl _
  ·exact(ih (by omega)).trans px2
def Ent(w:World)(b:Nat)(cd:Addr)(n cf t:Nat)(F:Nat->Gv)(kk:Nat)(T:List UInt8):Prop:=
 ((F kk).a.k=40/\(F kk).q=1/\W2 w b cd n cf t 25 (.int .i64 ((F kk).K 0)) (.int .i64 0) (T))\/((F kk).a.k=41/\(F kk).q=2/\∃x y,T=[91]++x++[93,32,61,32]++y/\W2 w b cd n cf t 25 (.int .i64 ((F kk).K 0)) (.int .i64 0) (x)/\W2 w b cd n cf t 25 (.int .i64 ((F kk).K 1)) (.int .i64 0) (y))\/((F kk).a.k=42/\(F kk).q=1/\(F kk).a.x.size<=4000/\∃x,T=(46::byt (F kk).a.x)++eq3++x/\W2 w b cd n cf t 25 (.int .i64 ((F kk).K 0)) (.int .i64 0) (x))
theorem mt_table(hq:Hid ((F i).q<=1048576))(H:Hid (∀j,j<(F i).q->∃kk:Nat,(F i).K j=(kk:Int)/\Am w n cf cd F kk/\Ent w b cd n cf t F kk (ts j))):∀pn cn pk ck,RowV w (.slice pn (F i).p cn) (F i).p (λj=>.string ((F i).A j))->RowV w (.slice pk (F i).q ck) (F i).q (λj=>.int .i64 ((F i).K j))->Cw w b (.slice (some cd) n cf) t 45 #[.pointer (some ⟨b,0,none⟩),fmv (F i).a (.slice pn (F i).p cn) (.slice pk (F i).q ck)] ([123]++cmj ts (F i).q++[125]):=by
 intro pn cn pk ck rn rk l W h hl;obtain⟨V,g,hV,hg,HF1⟩:=Fw.start h hl rn rk;clear h hl rn rk;unfold fmv;go_enter Tryz.func45,Tryz.ntmps45;go_upto_region 1 with fail
 try rw[hV]
 try rw[hg]
 clear hV hg;obtain⟨c0,c1,c2,c3,c4,c5,c6,c7,c8⟩:=Fw.cs HF1;have HC:=Fw.say HF1 ⟨#[123]⟩ px2;go_wp2_with fail;refine HC.mono ?_;rintro e y1 ⟨rfl,HF2⟩;clear HC HF1 c0 c1 c2 c3 c4 c5 c6 c7 c8;obtain⟨c0,c1,c2,c3,c4,c5,c6,c7,c8⟩:=Fw.cs HF2;have hqI:((F i).q:Int)<=1048576:=by have:=un hq;omega
 have H0:Hid (Fw w b (.slice (some cd) n cf) t l W g (F i) pn cn pk ck ([123]++cmj ts (F i).q++[125]) ([123]++cmj ts 0) y1):=HF2;clear HF2;go_wp2_with fail;clear c0 c1 c2 c3 c4 c5 c6 c7 c8
 go_loopw [12] (λs12 wr=>∃j:Nat,s12=.int .i64 j/\j<=(F i).q/\Hid (Fw w b (.slice (some cd) n cf) t l W g (F i) pn cn pk ck ([123]++cmj ts (F i).q++[125]) ([123]++cmj ts j) wr)) (λs12 _=>(F i).q-(intOf s12).toNat)
 case atStart=>exact⟨0,rfl,Nat.zero_le _,H0⟩
 case round=>
  clear H0;obtain⟨j,rfl,hjq,HX⟩:=hrel;by_cases hj:j<(F i).q
  ·have hjI:(j:Int)<((F i).q:Int):=by omega
   obtain⟨kk,hkk,A,hent⟩:=(un H) j hj;obtain⟨ad,e1,hck,kj⟩:=Fw.kid HX hj;subst e1;rw[hkk]at kj;have HP:Hid ([123]++cmj ts j++(if j=0 then []else [44,32])++ts j<+: [123]++cmj ts (F i).q++[125]):=((List.prefix_append_right_inj [123]).2 (cmj_pre ts (show j+1<=(F i).q from hj)): [123]++cmj ts (j+1)<+:_).trans px1;have HEN:Hid (Ent w b cd n cf t F kk (ts j)):=hent;clear hkk hent;by_cases hj0:j=0
   case' pos=>
    have g0:¬(0:Int)<(j:Int):=by omega
    have HS:Hid (Fw w b (.slice (some cd) n cf) t l W g (F i) pn cn (some ad) ck ([123]++cmj ts (F i).q++[125]) ([123]++cmj ts j++(if j=0 then []else [44,32])) wr):=by rw[if_pos hj0,List.append_nil];exact HX
    obtain⟨y,hy⟩:∃y,y=wr:=⟨_,rfl⟩
    subst hy;have HJ:Hid (j=0\/0<j):=.inl hj0;clear HX hj0;go_upto_region 7 with fail
   case' neg=>
    have g0:(0:Int)<(j:Int):=by omega
    have HC:=Fw.say HX ⟨#[44,32]⟩ (by have h:=un HP;rw[if_neg hj0]at h;exact px1.trans h);have HJ:Hid (j=0\/0<j):=.inr (by omega);have HJ2:Hid (¬j=0):=hj0;clear hj0;go_wp2_with fail;refine HC.mono ?_;rintro e y ⟨rfl,HS2⟩;have HS:Hid (Fw w b (.slice (some cd) n cf) t l W g (F i) pn cn (some ad) ck ([123]++cmj ts (F i).q++[125]) ([123]++cmj ts j++(if j=0 then []else [44,32])) y):=by rw[if_neg (un HJ2)];exact HS2
    clear HC HX kj HS2 HJ2;go_upto_region 7 with fail
   all_goals
    obtain⟨p2,u2,p3,u3,V2,g2,hV,hg,HE1,b0,⟨d0,d1,d2,d3,d4,d5,d6,d7,d8⟩,hi,hn⟩:=Fw.open (TT:=ts j) (un HS).q (by have h1:=(un HP).length_le;have h2:=(un HS).le;rw[List.length_append (bs:=ts j)]at h1;rw[List.length_append];omega) A;clear A;go_upto_region 8 with fail
    try rw[hV]
    try rw[hg]
    clear hV hg b0 d0 d1 d2 d3 d4 d5 d6 d7 d8 hi hn;obtain⟨c0,c1,c2,c3,c4,c5,c6,c7,c8⟩:=Fw.cs HE1;rcases(un HEN)with⟨h40,h2,HA⟩|⟨h41,h2,x,y2,hts,HA,HB⟩|⟨h42,h2,hz,x,hts,HA⟩
    ·rw[h40]at c0;have hq2:Hid ((F kk).q=1):=h2;have HAH:Hid _:=HA;clear h40 h2 HA HEN;obtain⟨ad2,e1,hck2,k0⟩:=Fw.kid HE1 (j:=0) (by have:=un hq2;omega);subst e1;rw[add_z]at k0;have j0:(0:Int)<((F kk).q:Int):=by have:=un hq2;omega
     have HC:=Fw.step HE1 (un HAH) px0;go_wp2_with fail;refine HC.mono ?_;rintro e z1 ⟨rfl,HE2⟩;clear HC HE1 c0 c1 c2 c3 c4 c5 c6 c7 c8 k0 j0;have HD:=Fw.done HE2 (U:=ts j) rfl;have HN:Hid (Fw w b (.slice (some cd) n cf) t l W g (F i) pn cn (some ad) ck ([123]++cmj ts (F i).q++[125]) ([123]++cmj ts (j+1)) z1):=(un HS).keep HD.1 HD.2;clear HD HE2 HS HP HJ;go_wp2_with fail;go_roundw
     case rel=>exact⟨j+1,by go_num,by omega,HN⟩
     case measure=>simp[intOf];omega
    ·rw[h41]at c0;rw[hts]at HE1 HP;have hq2:Hid ((F kk).q=2):=h2;have HAH:Hid _:=HA;have HBH:Hid _:=HB;have HTS:Hid _:=hts;clear h41 h2 HA HB HEN hts;have HC:=Fw.say HE1 ⟨#[91]⟩ px3;go_wp2_with fail;refine HC.mono ?_;rintro e z1 ⟨rfl,HE2⟩;clear HC HE1 c0 c1 c2 c3 c4 c5 c6 c7 c8;obtain⟨ad2,e1,hck2,k0⟩:=Fw.kid HE2 (j:=0) (by have:=un hq2;omega);subst e1;rw[add_z]at k0;have j0:(0:Int)<((F kk).q:Int):=by have:=un hq2;omega
     obtain⟨c0,c1,c2,c3,c4,c5,c6,c7,c8⟩:=Fw.cs HE2;have HC:=Fw.step HE2 (un HAH) px2;go_wp2_with fail;refine HC.mono ?_;rintro e z2 ⟨rfl,HE3⟩;clear HC HE2 c0 c1 c2 c3 c4 c5 c6 c7 c8 k0 j0;have HC:=Fw.say HE3 ⟨#[93,32,61,32]⟩ px1;go_wp2_with fail;refine HC.mono ?_;rintro e z3 ⟨rfl,HE4⟩;clear HC HE3;obtain⟨_,e1,-,k1⟩:=Fw.kid HE4 (j:=1) (by have:=un hq2;omega);obtain rfl:=Option.some.inj e1;replace k1:World.cell? _ ⟨ad2.block,ad2.off+1,none⟩=_:=k1;have j1:(1:Int)<((F kk).q:Int):=by have:=un hq2;omega
     obtain⟨c0,c1,c2,c3,c4,c5,c6,c7,c8⟩:=Fw.cs HE4;have HC:=Fw.step HE4 (un HBH) px0;go_wp2_with fail;refine HC.mono ?_;rintro e z4 ⟨rfl,HE5⟩;clear HC HE4 c0 c1 c2 c3 c4 c5 c6 c7 c8 k1 j1;have HD:=Fw.done HE5 (U:=ts j) (by rw[un HTS];rfl);have HN:Hid (Fw w b (.slice (some cd) n cf) t l W g (F i) pn cn (some ad) ck ([123]++cmj ts (F i).q++[125]) ([123]++cmj ts (j+1)) z4):=(un HS).keep HD.1 HD.2;clear HD HE5 HS HP HJ;go_wp2_with fail;go_roundw
     case rel=>exact⟨j+1,by go_num,by omega,HN⟩
     case measure=>simp[intOf];omega
    ·rw[h42]at c0;rw[hts]at HE1 HP;have hq2:Hid ((F kk).q=1):=h2;have HAH:Hid _:=HA;have HTS:Hid _:=hts;obtain⟨q1,q2⟩:=cat3 hz 1 3 (by decide) (by decide);clear h42 h2 HA HEN hts hz;have HC:=Fw.say HE1 (⟨#[46]⟩++(F kk).a.x++⟨#[32,61,32]⟩) px1;go_wp2_with fail;refine HC.mono ?_;rintro e z1 ⟨rfl,HE2⟩;clear HC HE1 c0 c1 c2 c3 c4 c5 c6 c7 c8 q1 q2;obtain⟨ad2,e1,hck2,k0⟩:=Fw.kid HE2 (j:=0) (by have:=un hq2;omega);subst e1;rw[add_z]at k0;have j0:(0:Int)<((F kk).q:Int):=by have:=un hq2;omega
     obtain⟨c0,c1,c2,c3,c4,c5,c6,c7,c8⟩:=Fw.cs HE2;have HC:=Fw.step HE2 (un HAH) px0;go_wp2_with fail;refine HC.mono ?_;rintro e z2 ⟨rfl,HE3⟩;clear HC HE2 c0 c1 c2 c3 c4 c5 c6 c7 c8 k0 j0;have HD:=Fw.done HE3 (U:=ts j) (by rw[un HTS];rfl);have HN:Hid (Fw w b (.slice (some cd) n cf) t l W g (F i) pn cn (some ad) ck ([123]++cmj ts (F i).q++[125]) ([123]++cmj ts (j+1)) z2):=(un HS).keep HD.1 HD.2;clear HD HE3 HS HP HJ;go_wp2_with fail;go_roundw
     case rel=>exact⟨j+1,by go_num,by omega,HN⟩
     case measure=>simp[intOf];omega
  ·obtain rfl:j=(F i).q:=by omega
   clear hj hjq;have HC:=Fw.say HX ⟨#[125]⟩ px0;go_wp2_with fail;refine HC.mono ?_;rintro e y ⟨rfl,HZ⟩;clear HC HX;go_wp2_with fail;exact⟨rfl,.tuple #[],by simp[results,Tryz.results45],rfl,Fw.done HZ rfl⟩
theorem Ws.retab(h:Ws w b fs t l W)(t':Nat):W.cell? ⟨b,2,none⟩=some (.int .i64 t)/\W.frozen? ⟨b,2,none⟩=false/\Ws w b fs t' l (W.setCell ⟨b,2,none⟩ (.int .i64 t'))/\Lib.OthersKept 5 (some b) W (W.setCell ⟨b,2,none⟩ (.int .i64 t')):=by
 obtain⟨v,h1,h2⟩:=h.bx;refine⟨cell_of h1 rfl,frozen_of h1,⟨h.hb,h.bo.setCell (p:=⟨b,2,none⟩) (Nat.le_refl _) _,v,set_known _ h1,h2.1,?_⟩,Lib.OthersKept.setCell (Lib.OthersKept.refl _ _ _) ⟨b,2,none⟩ rfl _⟩;rcases h2.2 with q|⟨g,cap,cur,q1,q2,q3,q4⟩
 ·exact .inl q
 ·exact .inr ⟨g,cap,cur,q1,q2,(Below.heap_setCell _ _ _ _ (show g≠b by omega)).trans q3,q4⟩
theorem lns_mono(t:Nat)(ts:Nat->List UInt8)(h:i<=p):(lns t ts i).length<=(lns t ts p).length:=by
 induction p with
 |zero=>
  obtain rfl:i=0:=by omega
  exact Nat.le_refl _
 |succ p ih=>
  by_cases e:i=p+1
  ·subst e;exact Nat.le_refl _
  ·have:=ih (by omega);show _<=(lns t ts p++(10::(tbs t++ts p))).length;rw[List.length_append];omega
theorem sl_0(hf:RowF w (.slice (some cd) n cf) n F)(hi:i<n)(hn:n<=3000)(hq:(F i).q=0):Cw w b (.slice (some cd) n cf) t 22 #[.pointer (some ⟨b,0,none⟩),.int .i64 i] ([123,125]):=by
 intro l W h hlen;obtain⟨_,_,e1,hf2⟩:=id hf;obtain⟨rfl,-,rfl⟩:=(Value.slice.injEq _ _ _ _ _ _).mp e1;obtain⟨_,e2,hcc,hrc⟩:=hf2 (by omega);obtain rfl:=Option.some.inj e2;obtain⟨vn,vk,hc9,hrn,hrk⟩:=hrc i hi;obtain⟨pn,cn,rfl,-⟩:=id hrn;obtain⟨pk,ck,rfl,hrk2⟩:=id hrk;obtain⟨d0,d1,d2,d3,d4,d5,d6,d7,d8⟩:=hc9.below h.bel;have c0:=h.frm;have hiI:(i:Int)<(n:Int):=by omega
 have hccI:(n:Int)<=3000:=by omega
 have HC:=say_one w b (.slice (some cd) n cf) t ⟨#[123,125]⟩ [123,125] rfl h hlen;rw[hq]at d8;clear h hc9 hf hf2 hrc hrn hrk hrk2 hlen d0 d1 d2 d3 d4 d5 d6 d7;go_enter Tryz.func22,Tryz.ntmps22;go_wp2_with fail;refine HC.mono ?_;rintro e w2 ⟨rfl,hW,hO⟩;have HN:Hid (Ws w b (.slice (some cd) n cf) t (l++[123,125]) w2/\Lib.OthersKept 5 (some b) W w2):=(⟨hW,hO⟩:_/\_)
 clear HC hW hO d8 c0;go_wp2_with fail;exact⟨rfl,.tuple #[],by simp[results,Tryz.results22],rfl,HN⟩
theorem sl_1(hf:RowF w (.slice (some cd) n cf) n F)(hi:i<n)(hn:n<=3000)(ht:t<=6100)(hq:0<(F i).q)(hqB:(F i).q<=1048576)(HTS:Hid (∀j,j<(F i).q->Cw w b (.slice (some cd) n cf) (t+1) 11 #[.pointer (some ⟨b,0,none⟩),.int .i64 ((F i).K j)] (ts j))):Cw w b (.slice (some cd) n cf) t 22 #[.pointer (some ⟨b,0,none⟩),.int .i64 i] ([123]++lns (t+1) ts (F i).q++(10::(tbs t++[125]))):=by
 intro l W h hlen;rw[List.length_append,List.length_append]at hlen;have hl3:(10::(tbs t++[125]):List UInt8).length=(tbs t).length+2:=by rw[List.length_cons,List.length_append];rfl
 have hl4:=tbs_len t;rw[hl3]at hlen;have HLEN:Hid (l.length+(([123]:List UInt8).length+(lns (t+1) ts (F i).q).length+((tbs t).length+2))<=1000000000000):=hlen;obtain⟨_,_,e1,hf2⟩:=id hf;obtain⟨rfl,-,rfl⟩:=(Value.slice.injEq _ _ _ _ _ _).mp e1;obtain⟨_,e2,hcc,hrc⟩:=hf2 (by omega);obtain rfl:=Option.some.inj e2;obtain⟨vn,vk,hc9,hrn,hrk⟩:=hrc i hi;obtain⟨pn,cn,rfl,-⟩:=id hrn;obtain⟨pk,ck,rfl,hrk2⟩:=id hrk;obtain⟨d0,d1,d2,d3,d4,d5,d6,d7,d8⟩:=hc9.below h.bel;have c0:=h.frm;have hiI:(i:Int)<(n:Int):=by omega
 have hccI:(n:Int)<=3000:=by omega
 obtain⟨ad,rfl,hcap,-⟩:=hrk2 hq
 have HRK:Hid (∀V l' t',Ws w b (.slice (some cd) n cf) t' l' V->∀j,j<(F i).q->V.cell? (ad.add j)=some (.int .i64 ((F i).K j))):=(λV l' t' hV j hj=>by
  obtain⟨_,_,q1,q2⟩:=hrk.below hV.bel;obtain⟨rfl,-,rfl⟩:=(Value.slice.injEq _ _ _ _ _ _).mp q1;obtain⟨_,q3,-,hcel⟩:=q2 (by omega);obtain rfl:=Option.some.inj q3
  exact hcel j hj:∀V l' t',_)
 have HC:=say_one w b (.slice (some cd) n cf) t ⟨#[123]⟩ [123] rfl h (by omega);have hq0:((F i).q=0)=False:=eq_false (by omega);have hqI:((F i).q:Int)<=1048576:=by omega
 have htI:(t:Int)<=6100:=by omega
 clear h hc9 hf hf2 hrc hrn hrk hrk2 hlen d0 d1 d2 d3 d4 d5 d6 d7 hl3;go_enter Tryz.func22,Tryz.ntmps22;go_wp2_with fail;refine HC.mono ?_;rintro e w2 ⟨rfl,hW2,hO2⟩;obtain⟨c2,f2,hW3,hO3⟩:=hW2.retab (t+1);obtain⟨w3,hw3⟩:∃w3,w3=w2.setCell ⟨b,2,none⟩ (.int .i64 ((t+1:Nat):Int)):=⟨_,rfl⟩
 rw[<-hw3]at hW3 hO3
 have H3:Hid (Ws w b (.slice (some cd) n cf) (t+1) (l++[123]++lns (t+1) ts 0) w3/\Lib.OthersKept 5 (some b) W w3):=by
  refine(⟨?_,hO2.trans hO3⟩:_/\_);show Ws w b (.slice (some cd) n cf) (t+1) (l++[123]++[]) w3;rw[List.append_nil];exact hW3
 have hWd:w2.setCell ⟨b,2,none⟩ (.int .i64 ((t:Int)+1))=w3:=by rw[hw3];rfl
 have hov:IntKind.i64.wrap ((t:Int)+1)=(t:Int)+1:=by rw[IntKind.wrap_i64];omega
 clear HC hW2 hO2 hW3 hO3 hw3 d8 c0;go_upto_region 5 with fail
 try rw[hWd]
 clear c2 f2 hWd hov;go_wp2_with fail
 go_loopw [32] (λs32 wr=>∃j:Nat,s32=.int .i64 j/\j<=(F i).q/\Hid (Ws w b (.slice (some cd) n cf) (t+1) (l++[123]++lns (t+1) ts j) wr/\Lib.OthersKept 5 (some b) W wr)) (λs32 _=>(F i).q-(intOf s32).toNat)
 case atStart=>exact⟨0,rfl,Nat.zero_le _,H3⟩
 case round=>
  clear H3;obtain⟨j,rfl,hjq,HX⟩:=hrel;obtain⟨hX,hO⟩:=(uh HX)
  by_cases hj:j<(F i).q
  ·have hjI:(j:Int)<((F i).q:Int):=by omega
   have kj:=(uh HRK) wr _ _ hX j hj;have hm:=lns_mono (t+1) ts (show j+1<=(F i).q from hj)
   have hm2:(lns (t+1) ts (j+1)).length=(lns (t+1) ts j).length+((tbs (t+1)).length+(ts j).length+1):=by
    show(lns (t+1) ts j++(10::(tbs (t+1)++ts j))).length=_;rw[List.length_append,List.length_cons,List.length_append]
   have HL:Hid ((l++[123]++lns (t+1) ts j).length+(10::tbs (t+1):List UInt8).length+(ts j).length<=1000000000000):=by
    show _<=_;have:=(uh HLEN)
    have q1:(10::tbs (t+1):List UInt8).length=(tbs (t+1)).length+1:=rfl;rw[List.length_append,List.length_append];omega
   have HC:=sw_line w b (.slice (some cd) n cf) (t+1) _ wr hX (by have:=(uh HL);omega);have HO:Hid (Lib.OthersKept 5 (some b) W wr):=hO;clear hX hO HX hm hm2;go_wp2_with fail;refine HC.mono ?_;rintro e y1 ⟨rfl,hY,hO⟩;have HC2:=((uh HTS) j hj) _ y1 hY (by have:=(uh HL);rw[List.length_append];omega);have HO1:Hid (Lib.OthersKept 5 (some b) W y1):=(uh HO).trans hO;clear HC hY hO kj HO HL;go_wp2_with fail;refine HC2.mono ?_;rintro e y2 ⟨rfl,hY,hO⟩
   have HN:Hid (Ws w b (.slice (some cd) n cf) (t+1) (l++[123]++lns (t+1) ts (j+1)) y2/\Lib.OthersKept 5 (some b) W y2):=by
    refine(⟨?_,(uh HO1).trans hO⟩:_/\_)
    have e:l++[123]++lns (t+1) ts (j+1)=l++[123]++lns (t+1) ts j++(10::tbs (t+1))++ts j:=by
     show l++[123]++(lns (t+1) ts j++(10::(tbs (t+1)++ts j)))=_;simp only[List.append_assoc,List.cons_append]
    rw[e];exact hY
   clear HC2 hY hO HO1;go_wp2_with fail;go_roundw
   case rel=>exact⟨j+1,by go_num,by omega,HN⟩
   case measure=>simp[intOf];omega
  ·obtain rfl:j=(F i).q:=by omega
   obtain⟨c2,f2,hW3,hO3⟩:=hX.retab t;obtain⟨w4,hw4⟩:∃w4,w4=wr.setCell ⟨b,2,none⟩ (.int .i64 t):=⟨_,rfl⟩
   rw[<-hw4]at hW3 hO3;have hWd:wr.setCell ⟨b,2,none⟩ (.int .i64 t)=w4:=hw4.symm;have hov:IntKind.i64.wrap (((t:Int)+1)-1)=(t:Int):=by rw[IntKind.wrap_i64];omega
   have hov2:IntKind.i64.wrap (t:Int)=(t:Int):=by rw[IntKind.wrap_i64];omega
   have c2':wr.cell? ⟨b,2,none⟩=some (.int .i64 ((t:Int)+1)):=by rw[c2];rfl
   have HO:Hid (Lib.OthersKept 5 (some b) W w4):=hO.trans hO3;have HC:=sw_line w b (.slice (some cd) n cf) t _ w4 hW3 (by have:=(uh HLEN);have q1:(10::tbs t:List UInt8).length=(tbs t).length+1:=rfl;rw[List.length_append,List.length_append];omega);clear hX hO hO3 hW3 hw4 HX hj c2;go_upto_region 12 with fail
   try rw[hWd]
   clear hWd hov hov2 c2' f2;go_wp2_with fail;refine HC.mono ?_;rintro e y1 ⟨rfl,hY,hO⟩;have HC2:=say_one w b (.slice (some cd) n cf) t ⟨#[125]⟩ [125] rfl hY (by have:=(uh HLEN);have q1:(10::tbs t:List UInt8).length=(tbs t).length+1:=rfl;have q2:([125]:List UInt8).length=1:=rfl;rw[List.length_append,List.length_append,List.length_append];omega);have HO1:Hid (Lib.OthersKept 5 (some b) W y1):=(uh HO).trans hO;clear HC hY hO HO;go_wp2_with fail;refine HC2.mono ?_;rintro e y2 ⟨rfl,hY,hO⟩
   have HN:Hid (Ws w b (.slice (some cd) n cf) t (l++([123]++lns (t+1) ts (F i).q++(10::(tbs t++[125])))) y2/\Lib.OthersKept 5 (some b) W y2):=by
    refine(⟨?_,(uh HO1).trans hO⟩:_/\_)
    have e:l++([123]++lns (t+1) ts (F i).q++(10::(tbs t++[125])))=l++[123]++lns (t+1) ts (F i).q++(10::tbs t)++[125]:=by
     simp only[List.append_assoc,List.cons_append]
    rw[e];exact hY
   clear HC2 hY hO HO1;go_wp2_with fail;exact⟨rfl,.tuple #[],by simp[results,Tryz.results22],rfl,HN⟩
