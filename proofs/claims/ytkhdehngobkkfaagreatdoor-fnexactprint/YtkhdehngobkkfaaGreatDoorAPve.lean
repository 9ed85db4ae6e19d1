import Derived.Test.YtkhdehngobkkfaaGreatDoorAPvc
set_option maxHeartbeats 16000000
namespace Go.Proofs.YtkhdehngobkkfaaGreatDoor.Fo
open Go.ChangeShapes Go.WideShapes Go.ChangeAt Go.RowKit
set_option linter.unusedVariables false
set_option maxRecDepth 100000
variable {w:World}{b t n i cf kk:Nat}{cd:Addr}{F:Nat->Gv}{X Y Z:List UInt8}{ts:Nat->List UInt8}
theorem qs_4(A:Am w n cf cd F i)(hk:Hid ((F i).a.k=4))(hp:Hid ((F i).p=1/\((F i).A 0).size<=4000))(A2:Am w n cf cd F kk)(hkk:Hid ((F i).K 0=(kk:Int)))(hq:Hid ((F i).q=1))(H:Hid (Qv w b cd n cf F t 61 kk (X))):Q1 w b cd n cf t 32 (.int .i64 i) ([102,110,32]++byt ((F i).A 0)++X):=by
 intro l W h;obtain⟨pn,cn,pk,ck,V,g,hV,hg,HF1,c0,⟨d0,d1,d2,d3,d4,d5,d6,d7,d8⟩,hi,hn⟩:=Fq.open h A;clear h A;go_enter Tryz.func32,Tryz.ntmps32;go_upto_region 1 with fail
 try rw[hV]
 try rw[hg]
 clear hV hg c0 d0 d1 d2 d3 d4 d5 d6 d7 d8 hi hn;obtain⟨c0,c1,c2,c3,c4,c5,c6,c7,c8⟩:=Fq.cs HF1;rw[un hk]at c0;obtain⟨an,rfl,hcn,n0⟩:=Fq.nam HF1 (j:=0) (by have:=(un hp).1;omega);rw[add_z]at n0;have m0:(0:Int)<((F i).p:Int):=by have:=(un hp).1;omega
 have HC:=λty hT=>Fq.say2 HF1 ⟨#[102,110,32]⟩ ((F i).A 0) (by decide) (by have:=(un hp).2;omega) ty hT;go_wp2_with fail;refine(HC _ (by decide)).mono ?_;rintro e y1 ⟨rfl,HF2⟩;clear HC HF1 c0 c1 c2 c3 c4 c5 c6 c7 c8 n0 m0;obtain⟨c0,c1,c2,c3,c4,c5,c6,c7,c8⟩:=Fq.cs HF2;obtain⟨ad,e1,hck,k0⟩:=Fq.kid HF2 (j:=0) (by have:=un hq;omega);subst e1;rw[un hkk]at k0;rw[add_z]at k0;have j0:(0:Int)<((F i).q:Int):=by have:=un hq;omega
 have hi:(kk:Int)<(n:Int):=by have:=A2.hi;omega
 have hn:(n:Int)<=3000:=by have:=A2.hn;omega
 have b0:=(un HF2).q.frm;obtain⟨p2,u2,p3,u3,h9,rn2,rk2,-⟩:=A2.get;have h9w:=h9;obtain⟨⟨d0,d1,d2,d3,d4,d5,d6,d7,d8⟩,h9⟩:=h9.bothz (un HF2).q.bel;have H9:Hid _:=h9w;clear h9 h9w;have HFD:=Fq.call HF2 (be_drew y1);have HC:=Fq.step HFD ((un H) _ _ _ _ rn2 rk2);unfold fmv at HC;clear rn2 rk2;go_upto_region 12 with fail
 go_region_held_law (λW'=>W'.cell? ⟨b,0,none⟩=some (.slice (some cd) n cf)/\W'.cell? ⟨g,8,none⟩=some (.slice (some ad) (F i).q ck)/\W'.cell? ad=some (.int .i64 kk)/\W'.cell? (cd.add (kk*9))=some (.int .i64 (F kk).a.k)/\W'.cell? ⟨(cd.add (kk*9)).block,(cd.add (kk*9)).off+1,none⟩=some (.int .i64 (F kk).a.f)/\W'.cell? ⟨(cd.add (kk*9)).block,(cd.add (kk*9)).off+2,none⟩=some (.int .i64 (F kk).a.t)/\W'.cell? ⟨(cd.add (kk*9)).block,(cd.add (kk*9)).off+3,none⟩=some (.int .i64 (F kk).a.l)/\W'.cell? ⟨(cd.add (kk*9)).block,(cd.add (kk*9)).off+4,none⟩=some (.int .i64 (F kk).a.o)/\W'.cell? ⟨(cd.add (kk*9)).block,(cd.add (kk*9)).off+5,none⟩=some (.int .i64 (F kk).a.m)/\W'.cell? ⟨(cd.add (kk*9)).block,(cd.add (kk*9)).off+6,none⟩=some (.string (F kk).a.x)/\W'.cell? ⟨(cd.add (kk*9)).block,(cd.add (kk*9)).off+7,none⟩=some (.slice p2 (F kk).p u2)/\W'.cell? ⟨(cd.add (kk*9)).block,(cd.add (kk*9)).off+8,none⟩=some (.slice p3 (F kk).q u3)) (first|exact v|exact⟨b0,c8,k0,d0,d1,d2,d3,d4,d5,d6,d7,d8⟩) ((go_at_call 61;refine HC.mono ?_;rintro e y2 ⟨rfl,HF3⟩;obtain⟨_,e2,-,v2⟩:=Fq.kid HF3 (j:=0) (by have:=un hq;omega);obtain rfl:=Option.some.inj e2;rw[un hkk,add_z]at v2;have v3:=(un H9).kz (un HF3).q.bel;have v:=And.intro (un HF3).q.frm (And.intro (Fq.cs HF3).2.2.2.2.2.2.2.2 (And.intro v2 (And.intro v3.c0 (And.intro v3.c1 (And.intro v3.c2 (And.intro v3.c3 (And.intro v3.c4 (And.intro v3.c5 (And.intro v3.c6 (And.intro v3.c7 v3.c8))))))))))))
 go_wp2_with fail;exact⟨rfl,.tuple #[],by simp[results,Tryz.results32],rfl,Fq.done HF3 rfl⟩
theorem qr_2(hq:Hid ((F i).q=2))(H:Hid (QL w b cd n cf F t (F i).K (1) ts))(HY:Hid (Q1 w b cd n cf t 58 (.int .i64 ((F i).K 1)) (Y))):Qv w b cd n cf F t 63 i (cmj ts 1++[32]++Y):=by
 intro pn cn pk ck rn rk l W h;obtain⟨V,g,hV,hg,HF1⟩:=Fq.start h rn rk;clear h rn rk;unfold fmv;go_enter Tryz.func63,Tryz.ntmps63;go_upto_region 1 with fail
 try rw[hV]
 try rw[hg]
 clear hV hg;obtain⟨c0,c1,c2,c3,c4,c5,c6,c7,c8⟩:=Fq.cs HF1;obtain⟨pa,ca,hs,HR⟩:=sl_to (un HF1).rk (m:=1) (by have:=un hq;omega) (by have:=un hq;omega) (rfl:(1:Int)=_);replace HR:Hid _:=HR;have HC:=Fq.step HF1 ((un H).go (un HR));go_wp2_with fail;refine(HC).mono ?_;rintro e y1 ⟨rfl,HF2⟩;clear HC HF1 c0 c1 c2 c3 c4 c5 c6 c7 c8 hs HR;have HC:=λty hT=>Fq.say1 HF2 ⟨#[32]⟩ (by decide) ty hT;go_wp2_with fail;refine(HC _ (by decide)).mono ?_;rintro e y2 ⟨rfl,HF3⟩;clear HC HF2;obtain⟨ad,e1,hck,k1⟩:=Fq.kid HF3 (j:=1) (by have:=un hq;omega);subst e1;replace k1:World.cell? _ ⟨ad.block,ad.off+1,none⟩=_:=k1;have j1:(1:Int)<((F i).q:Int):=by have:=un hq;omega
 obtain⟨c0,c1,c2,c3,c4,c5,c6,c7,c8⟩:=Fq.cs HF3;have HC:=Fq.step HF3 (un HY);go_wp2_with fail;refine(HC).mono ?_;rintro e y3 ⟨rfl,HF4⟩;clear HC HF3 c0 c1 c2 c3 c4 c5 c6 c7 c8 k1 j1;obtain⟨c0,c1,c2,c3,c4,c5,c6,c7,c8⟩:=Fq.cs HF4;have h3:((F i).q:Int)<3:=by have:=un hq;omega
 go_wp2_with fail;exact⟨rfl,.tuple #[],by simp[results,Tryz.results63],rfl,Fq.done HF4 rfl⟩
theorem qr_3(hq:Hid ((F i).q=3))(H:Hid (QL w b cd n cf F t (F i).K (1) ts))(HY:Hid (Q1 w b cd n cf t 58 (.int .i64 ((F i).K 1)) (Y)))(A2:Am w n cf cd F kk)(hkk:Hid ((F i).K 2=(kk:Int)))(hz:Hid (¬(F kk).a.k=7))(HZ:Hid (Q1 w b cd n cf t 58 (.int .i64 kk) (Z))):Qv w b cd n cf F t 63 i (cmj ts 1++[32]++Y++[32,101,108,115,101,32]++Z):=by
 intro pn cn pk ck rn rk l W h;obtain⟨V,g,hV,hg,HF1⟩:=Fq.start h rn rk;clear h rn rk;unfold fmv;go_enter Tryz.func63,Tryz.ntmps63;go_upto_region 1 with fail
 try rw[hV]
 try rw[hg]
 clear hV hg;obtain⟨c0,c1,c2,c3,c4,c5,c6,c7,c8⟩:=Fq.cs HF1;obtain⟨pa,ca,hs,HR⟩:=sl_to (un HF1).rk (m:=1) (by have:=un hq;omega) (by have:=un hq;omega) (rfl:(1:Int)=_);replace HR:Hid _:=HR;have HC:=Fq.step HF1 ((un H).go (un HR));go_wp2_with fail;refine(HC).mono ?_;rintro e y1 ⟨rfl,HF2⟩;clear HC HF1 c0 c1 c2 c3 c4 c5 c6 c7 c8 hs HR;have HC:=λty hT=>Fq.say1 HF2 ⟨#[32]⟩ (by decide) ty hT;go_wp2_with fail;refine(HC _ (by decide)).mono ?_;rintro e y2 ⟨rfl,HF3⟩;clear HC HF2;obtain⟨ad,e1,hck,k1⟩:=Fq.kid HF3 (j:=1) (by have:=un hq;omega);subst e1;replace k1:World.cell? _ ⟨ad.block,ad.off+1,none⟩=_:=k1;have j1:(1:Int)<((F i).q:Int):=by have:=un hq;omega
 obtain⟨c0,c1,c2,c3,c4,c5,c6,c7,c8⟩:=Fq.cs HF3;have HC:=Fq.step HF3 (un HY);go_wp2_with fail;refine(HC).mono ?_;rintro e y3 ⟨rfl,HF4⟩;clear HC HF3 c0 c1 c2 c3 c4 c5 c6 c7 c8 k1 j1;obtain⟨c0,c1,c2,c3,c4,c5,c6,c7,c8⟩:=Fq.cs HF4;have h3:¬((F i).q:Int)<3:=by have:=un hq;omega
 obtain⟨_,e1,-,k2⟩:=Fq.kid HF4 (j:=2) (by have:=un hq;omega);obtain rfl:=Option.some.inj e1;rw[un hkk]at k2;replace k2:World.cell? _ ⟨ad.block,ad.off+2,none⟩=_:=k2;have j2:(2:Int)<((F i).q:Int):=by have:=un hq;omega
 have hi:(kk:Int)<(n:Int):=by have:=A2.hi;omega
 have hn:(n:Int)<=3000:=by have:=A2.hn;omega
 have b0:=(un HF4).q.frm;obtain⟨p2,u2,p3,u3,h9,rn2,rk2,-⟩:=A2.get;have h9w:=h9;obtain⟨⟨d0,d1,d2,d3,d4,d5,d6,d7,d8⟩,h9⟩:=h9.bothz (un HF4).q.bel;have c8o:=λo=>(Fq.cs (Fq.call HF4 (bel1 y3 o))).2.2.2.2.2.2.2.2;have b0o:=λo=>(un (Fq.call HF4 (bel1 y3 o))).q.frm;have k2o:=λo=>((bel1 y3 o).cell (lt_of_cell' k2)).trans k2;have d0o:=λo=>(h9 o).c0;have d1o:=λo=>(h9 o).c1;have d2o:=λo=>(h9 o).c2;have d3o:=λo=>(h9 o).c3;have d4o:=λo=>(h9 o).c4;have d5o:=λo=>(h9 o).c5;have d6o:=λo=>(h9 o).c6;have d7o:=λo=>(h9 o).c7;have d8o:=λo=>(h9 o).c8;clear h9w;clear h9;clear c0 c1 c2 c3 c4 c5 c6 c7;go_upto_region 5 with fail
 go_region
 generalize hV2:World.drew _=V2;have HF5:=Fq.third HF4 hV2;have hB2:=new_cells hV2;have f0:V2.cell? ⟨_,0,none⟩=_:=cell_of hB2 rfl;have f1:V2.cell? ⟨_,1,none⟩=_:=cell_of hB2 rfl;have f2:V2.cell? ⟨_,2,none⟩=_:=cell_of hB2 rfl;have f3:V2.cell? ⟨_,3,none⟩=_:=cell_of hB2 rfl;have f4:V2.cell? ⟨_,4,none⟩=_:=cell_of hB2 rfl;have f5:V2.cell? ⟨_,5,none⟩=_:=cell_of hB2 rfl;have f6:V2.cell? ⟨_,6,none⟩=_:=cell_of hB2 rfl;have f7:V2.cell? ⟨_,7,none⟩=_:=cell_of hB2 rfl;have f8:V2.cell? ⟨_,8,none⟩=_:=cell_of hB2 rfl;clear hV2 hB2 HF4 hi hn b0 b0o c8 c8o k2 k2o j2 d0 d1 d2 d3 d4 d5 d6 d7 d8 d0o d1o d2o d3o d4o d5o d6o d7o d8o;have n7:((F kk).a.k==7)=false:=by rw[beq_eq_false_iff_ne];exact un hz
 have HC:=λty hT=>Fq.say1 HF5 ⟨#[32,101,108,115,101,32]⟩ (by decide) ty hT;go_wp2_with fail;refine(HC _ (by decide)).mono ?_;rintro e y5 ⟨rfl,HF6⟩;clear HC HF5  n7 f0 f1 f2 f3 f4 f5 f6 f7 f8;obtain⟨_,e1,-,k2⟩:=Fq.kid HF6 (j:=2) (by have:=un hq;omega);obtain rfl:=Option.some.inj e1;rw[un hkk]at k2;replace k2:World.cell? _ ⟨ad.block,ad.off+2,none⟩=_:=k2;have j2:(2:Int)<((F i).q:Int):=by have:=un hq;omega
 obtain⟨c0,c1,c2,c3,c4,c5,c6,c7,c8⟩:=Fq.cs HF6;have HC:=Fq.step HF6 (un HZ);go_wp2_with fail;refine(HC).mono ?_;rintro e y6 ⟨rfl,HF7⟩;clear HC HF6 c0 c1 c2 c3 c4 c5 c6 c7 c8 k2 j2;go_wp2_with fail;exact⟨rfl,.tuple #[],by simp[results,Tryz.results63],rfl,Fq.done HF7 rfl⟩
theorem qr_e(hq:Hid ((F i).q=3))(H:Hid (QL w b cd n cf F t (F i).K (1) ts))(HY:Hid (Q1 w b cd n cf t 58 (.int .i64 ((F i).K 1)) (Y)))(A2:Am w n cf cd F kk)(hkk:Hid ((F i).K 2=(kk:Int)))(hz:Hid ((F kk).a.k=7))(HZ:Hid (Qv w b cd n cf F t 63 kk (Z))):Qv w b cd n cf F t 63 i (cmj ts 1++[32]++Y++[32,101,108,105,102,32]++Z):=by
 intro pn cn pk ck rn rk l W h;obtain⟨V,g,hV,hg,HF1⟩:=Fq.start h rn rk;clear h rn rk;unfold fmv;go_enter Tryz.func63,Tryz.ntmps63;go_upto_region 1 with fail
 try rw[hV]
 try rw[hg]
 clear hV hg;obtain⟨c0,c1,c2,c3,c4,c5,c6,c7,c8⟩:=Fq.cs HF1;obtain⟨pa,ca,hs,HR⟩:=sl_to (un HF1).rk (m:=1) (by have:=un hq;omega) (by have:=un hq;omega) (rfl:(1:Int)=_);replace HR:Hid _:=HR;have HC:=Fq.step HF1 ((un H).go (un HR));go_wp2_with fail;refine(HC).mono ?_;rintro e y1 ⟨rfl,HF2⟩;clear HC HF1 c0 c1 c2 c3 c4 c5 c6 c7 c8 hs HR;have HC:=λty hT=>Fq.say1 HF2 ⟨#[32]⟩ (by decide) ty hT;go_wp2_with fail;refine(HC _ (by decide)).mono ?_;rintro e y2 ⟨rfl,HF3⟩;clear HC HF2;obtain⟨ad,e1,hck,k1⟩:=Fq.kid HF3 (j:=1) (by have:=un hq;omega);subst e1;replace k1:World.cell? _ ⟨ad.block,ad.off+1,none⟩=_:=k1;have j1:(1:Int)<((F i).q:Int):=by have:=un hq;omega
 obtain⟨c0,c1,c2,c3,c4,c5,c6,c7,c8⟩:=Fq.cs HF3;have HC:=Fq.step HF3 (un HY);go_wp2_with fail;refine(HC).mono ?_;rintro e y3 ⟨rfl,HF4⟩;clear HC HF3 c0 c1 c2 c3 c4 c5 c6 c7 c8 k1 j1;obtain⟨c0,c1,c2,c3,c4,c5,c6,c7,c8⟩:=Fq.cs HF4;have h3:¬((F i).q:Int)<3:=by have:=un hq;omega
 obtain⟨_,e1,-,k2⟩:=Fq.kid HF4 (j:=2) (by have:=un hq;omega);obtain rfl:=Option.some.inj e1;rw[un hkk]at k2;replace k2:World.cell? _ ⟨ad.block,ad.off+2,none⟩=_:=k2;have j2:(2:Int)<((F i).q:Int):=by have:=un hq;omega
 have hi:(kk:Int)<(n:Int):=by have:=A2.hi;omega
 have hn:(n:Int)<=3000:=by have:=A2.hn;omega
 have b0:=(un HF4).q.frm;obtain⟨p2,u2,p3,u3,h9,rn2,rk2,-⟩:=A2.get;have h9w:=h9;obtain⟨⟨d0,d1,d2,d3,d4,d5,d6,d7,d8⟩,h9⟩:=h9.bothz (un HF4).q.bel;have c8o:=λo=>(Fq.cs (Fq.call HF4 (bel1 y3 o))).2.2.2.2.2.2.2.2;have b0o:=λo=>(un (Fq.call HF4 (bel1 y3 o))).q.frm;have k2o:=λo=>((bel1 y3 o).cell (lt_of_cell' k2)).trans k2;have d0o:=λo=>(h9 o).c0;have d1o:=λo=>(h9 o).c1;have d2o:=λo=>(h9 o).c2;have d3o:=λo=>(h9 o).c3;have d4o:=λo=>(h9 o).c4;have d5o:=λo=>(h9 o).c5;have d6o:=λo=>(h9 o).c6;have d7o:=λo=>(h9 o).c7;have d8o:=λo=>(h9 o).c8;clear h9w;clear h9;clear c0 c1 c2 c3 c4 c5 c6 c7;go_upto_region 5 with fail
 go_region
 generalize hV2:World.drew _=V2;have HF5:=Fq.third HF4 hV2;have hB2:=new_cells hV2;have hgb:y3.heap.size≠b:=Nat.ne_of_gt (un HF4).q.lt;have f0:V2.cell? ⟨_,0,none⟩=_:=cell_of hB2 rfl;have f1:V2.cell? ⟨_,1,none⟩=_:=cell_of hB2 rfl;have f2:V2.cell? ⟨_,2,none⟩=_:=cell_of hB2 rfl;have f3:V2.cell? ⟨_,3,none⟩=_:=cell_of hB2 rfl;have f4:V2.cell? ⟨_,4,none⟩=_:=cell_of hB2 rfl;have f5:V2.cell? ⟨_,5,none⟩=_:=cell_of hB2 rfl;have f6:V2.cell? ⟨_,6,none⟩=_:=cell_of hB2 rfl;have f7:V2.cell? ⟨_,7,none⟩=_:=cell_of hB2 rfl;have f8:V2.cell? ⟨_,8,none⟩=_:=cell_of hB2 rfl;clear hV2 HF4 hi hn b0 b0o c8 c8o k2 k2o j2 d0 d1 d2 d3 d4 d5 d6 d7 d8 d0o d1o d2o d3o d4o d5o d6o d7o d8o;rw[un hz]at f0 hB2;have HC:=λty hT=>Fq.say1o HF5 ⟨#[32,101,108,105,102,32]⟩ (by decide) ty hT hB2 hgb (by decide);go_wp2_with fail;refine(HC _ (by decide)).mono ?_;rintro e y5 ⟨rfl,HF6,hB3⟩;clear HC HF5 hB2 hgb f0 f1 f2 f3 f4 f5 f6 f7 f8;have f0:y5.cell? ⟨_,0,none⟩=_:=cell_of hB3 rfl;have f1:y5.cell? ⟨_,1,none⟩=_:=cell_of hB3 rfl;have f2:y5.cell? ⟨_,2,none⟩=_:=cell_of hB3 rfl;have f3:y5.cell? ⟨_,3,none⟩=_:=cell_of hB3 rfl;have f4:y5.cell? ⟨_,4,none⟩=_:=cell_of hB3 rfl;have f5:y5.cell? ⟨_,5,none⟩=_:=cell_of hB3 rfl;have f6:y5.cell? ⟨_,6,none⟩=_:=cell_of hB3 rfl;have f7:y5.cell? ⟨_,7,none⟩=_:=cell_of hB3 rfl;have f8:y5.cell? ⟨_,8,none⟩=_:=cell_of hB3 rfl;clear hB3;have HC:=Fq.step HF6 ((un HZ) _ _ _ _ rn2 rk2);unfold fmv at HC;rw[un hz]at HC;go_wp2_with fail;refine(HC).mono ?_;rintro e y6 ⟨rfl,HF7⟩;clear HC HF6  f0 f1 f2 f3 f4 f5 f6 f7 f8;go_wp2_with fail;exact⟨rfl,.tuple #[],by simp[results,Tryz.results63],rfl,Fq.done HF7 rfl⟩
theorem qe_28(hk:Hid ((F i).a.k=28))(hg:Hid (Gd w/\w.rangeAt 4 0 bondA.toList/\12<=w.heap.size))(ho:Hid (((F i).a.k=28\/(F i).a.k=29->(F i).a.o=0)/\((F i).a.k=31->1<=(F i).a.o/\(F i).a.o<=18)))(hq:Hid ((F i).q=2))(H0:Hid (∀le:Int,le<=11->Cq w b (.slice (some cd) n cf) t 108 #[.pointer (some ⟨b,0,none⟩),.int .i64 ((F i).K 0),.int .i64 le] (par X (pwf (F (kn F i 0)).a) le)))(H1:Hid (∀le:Int,le<=11->Cq w b (.slice (some cd) n cf) t 108 #[.pointer (some ⟨b,0,none⟩),.int .i64 ((F i).K 1),.int .i64 le] (par Y (pwf (F (kn F i 1)).a) le))):Qv w b cd n cf F t 94 i (par X (pwf (F (kn F i 0)).a) (lpf (F i).a)++sgf (F i).a++par Y (pwf (F (kn F i 1)).a) (rpf (F i).a)):=by
 intro pn cn pk ck rn rk l W h;obtain⟨V,g,hV,hg,HF1⟩:=Fq.start h rn rk;clear h rn rk;unfold fmv;go_enter Tryz.func94,Tryz.ntmps94;go_upto_region 1 with fail
 try rw[hV]
 try rw[hg]
 clear hV hg;obtain⟨c0,c1,c2,c3,c4,c5,c6,c7,c8⟩:=Fq.cs HF1;rw[un hk]at c0;have HC:=im_bond (F i).a (.slice pn (F i).p cn) (.slice pk (F i).q ck) V (λj v hv=>((un HF1).q.bel.cell (p:=⟨4,0+j,none⟩) (by have:=(un hg).2.2;show 4<_;omega)).trans ((un hg).2.1 j v hv)) (by have:=(un hg).2.2;have:=(un HF1).q.bel.size;omega);unfold fmv at HC;rw[un hk]at HC;go_wp2_with fail;refine HC.mono ?_;rintro e y1 ⟨r,rfl,hbd,hb⟩;obtain⟨x0,x1,x2,x3,rfl,hl1,hl2,hz,hs⟩:=hbd.sg (.inl (un hk)) (un ho).1 (un ho).2;have HL:Hid (lpf (F i).a<=11/\rpf (F i).a<=11):=(⟨hl1,hl2⟩:_/\_)
 have HS:Hid (sgf (F i).a=[32]++(byt (spl x0)++[32])):=hs;have HF2:=Fq.call HF1 hb;clear HC hb hbd hl1 hl2 hs HF1 c0 c1 c2 c3 c4 c5 c6 c7 c8;go_upto_region 7 with fail;have hB:=alloc_at y1 #[.int .i64 x0,.int .i64 x1,.int .i64 x2,.int .i64 x3,.int .i64 (lpf (F i).a),.int .i64 (rpf (F i).a)] 147;have HF3:=Fq.call HF2 (bel1 y1 (.cells #[.int .i64 x0,.int .i64 x1,.int .i64 x2,.int .i64 x3,.int .i64 (lpf (F i).a),.int .i64 (rpf (F i).a)] 147));have hgb:y1.heap.size≠b:=Nat.ne_of_gt (un HF2).q.lt;obtain⟨y2,hy2⟩:∃y2,y2=y1.alloc (.cells #[.int .i64 x0,.int .i64 x1,.int .i64 x2,.int .i64 x3,.int .i64 (lpf (F i).a),.int .i64 (rpf (F i).a)] 147):=⟨_,rfl⟩
 obtain⟨g2,hg2⟩:∃g2,g2=y1.heap.size:=⟨_,rfl⟩
 rw[<-hg2]at hB hgb;rw[<-hy2]at hB HF3;rw[<-hy2,<-hg2];clear hy2 hg2 HF2;have q4:y2.cell? ⟨g2,4,none⟩=some (.int .i64 (lpf (F i).a)):=cell_of hB rfl;obtain⟨ad,rfl,hck,k0⟩:=Fq.kid HF3 (j:=0) (by have:=un hq;omega);rw[add_z]at k0;have j0:(0:Int)<((F i).q:Int):=by have:=un hq;omega
 obtain⟨c0,c1,c2,c3,c4,c5,c6,c7,c8⟩:=Fq.cs HF3;clear c0 c1 c2 c3 c4 c5 c6 c7;have HFD:=Fq.call HF3 (be_drew y2);have HC:=Fq.stepo HFD ((un H0) _ (un HL).1) (hB:(World.drew _).heap[_]? =_) hgb (by decide);have s0:=And.intro c8 (And.intro k0 q4);go_upto_region 7 with fail
 go_region_held_law (λW'=>W'.cell? ⟨g,8,none⟩=some (.slice (some ad) (F i).q ck)/\W'.cell? ad=some (.int .i64 ((F i).K 0))/\W'.cell? ⟨g2,4,none⟩=some (.int .i64 (lpf (F i).a))) (first|exact v|exact s0) ((go_at_call 108;refine HC.mono ?_;rintro e y3 ⟨rfl,HF4,hB2⟩;obtain⟨_,e2,-,v2⟩:=Fq.kid HF4 (j:=0) (by have:=un hq;omega);obtain rfl:=Option.some.inj e2;rw[add_z]at v2;have v:=And.intro (Fq.cs HF4).2.2.2.2.2.2.2.2 (And.intro v2 (cell_of (j:=4) hB2 rfl))))
 clear HFD HC HF3 s0 v v2 hB c8 k0 q4 j0;have q0:y3.cell? ⟨g2,0,none⟩=some (.int .i64 x0):=cell_of hB2 rfl;have HC:=impl_spell x0 y3 ((un HF4).q.bel.gd (un hg).1);go_wp2_with fail;refine HC.mono ?_;rintro e y4 ⟨rfl,hy⟩;rw[hy];clear HC hy q0;have HC:=λty hT=>Fq.say3o HF4 ⟨#[32]⟩ (spl x0) ⟨#[32]⟩ (by decide) (by omega) (by decide) ty hT hB2 hgb (by decide);go_wp2_with fail;refine(HC _ (by decide)).mono ?_;rintro e y5 ⟨rfl,HF5,hB⟩;clear HC HF4 hB2 hz y4;have q5:y5.cell? ⟨g2,5,none⟩=some (.int .i64 (rpf (F i).a)):=cell_of hB rfl;obtain⟨_,e1,-,k1⟩:=Fq.kid HF5 (j:=1) (by have:=un hq;omega);obtain rfl:=Option.some.inj e1;replace k1:World.cell? _ ⟨ad.block,ad.off+1,none⟩=_:=k1;have j1:(1:Int)<((F i).q:Int):=by have:=un hq;omega
 obtain⟨c0,c1,c2,c3,c4,c5,c6,c7,c8⟩:=Fq.cs HF5;clear c0 c1 c2 c3 c4 c5 c6 c7;have HFD:=Fq.call HF5 (be_drew y5);have HC:=Fq.stepo HFD ((un H1) _ (un HL).2) (hB:(World.drew _).heap[_]? =_) hgb (by decide);have s0:=And.intro c8 (And.intro k1 q5);go_upto_region 9 with fail
 go_region_held_law (λW'=>W'.cell? ⟨g,8,none⟩=some (.slice (some ad) (F i).q ck)/\W'.cell? ⟨ad.block,ad.off+1,none⟩=some (.int .i64 ((F i).K 1))/\W'.cell? ⟨g2,5,none⟩=some (.int .i64 (rpf (F i).a))) (first|exact v|exact s0) ((go_at_call 108;refine HC.mono ?_;rintro e y6 ⟨rfl,HF6,hB2⟩;obtain⟨_,e2,-,v2⟩:=Fq.kid HF6 (j:=1) (by have:=un hq;omega);obtain rfl:=Option.some.inj e2;have v:=And.intro (Fq.cs HF6).2.2.2.2.2.2.2.2 (And.intro v2 (cell_of (j:=5) hB2 rfl))))
 exact⟨rfl,.tuple #[],by simp[results,Tryz.results94],rfl,Fq.done HF6 (by rw[un HS];rfl)⟩
theorem qe_29(hk:Hid ((F i).a.k=29))(hg:Hid (Gd w/\w.rangeAt 4 0 bondA.toList/\12<=w.heap.size))(ho:Hid (((F i).a.k=28\/(F i).a.k=29->(F i).a.o=0)/\((F i).a.k=31->1<=(F i).a.o/\(F i).a.o<=18)))(hq:Hid ((F i).q=2))(H0:Hid (∀le:Int,le<=11->Cq w b (.slice (some cd) n cf) t 108 #[.pointer (some ⟨b,0,none⟩),.int .i64 ((F i).K 0),.int .i64 le] (par X (pwf (F (kn F i 0)).a) le)))(H1:Hid (∀le:Int,le<=11->Cq w b (.slice (some cd) n cf) t 108 #[.pointer (some ⟨b,0,none⟩),.int .i64 ((F i).K 1),.int .i64 le] (par Y (pwf (F (kn F i 1)).a) le))):Qv w b cd n cf F t 94 i (par X (pwf (F (kn F i 0)).a) (lpf (F i).a)++sgf (F i).a++par Y (pwf (F (kn F i 1)).a) (rpf (F i).a)):=by
 intro pn cn pk ck rn rk l W h;obtain⟨V,g,hV,hg,HF1⟩:=Fq.start h rn rk;clear h rn rk;unfold fmv;go_enter Tryz.func94,Tryz.ntmps94;go_upto_region 1 with fail
 try rw[hV]
 try rw[hg]
 clear hV hg;obtain⟨c0,c1,c2,c3,c4,c5,c6,c7,c8⟩:=Fq.cs HF1;rw[un hk]at c0;have HC:=im_bond (F i).a (.slice pn (F i).p cn) (.slice pk (F i).q ck) V (λj v hv=>((un HF1).q.bel.cell (p:=⟨4,0+j,none⟩) (by have:=(un hg).2.2;show 4<_;omega)).trans ((un hg).2.1 j v hv)) (by have:=(un hg).2.2;have:=(un HF1).q.bel.size;omega);unfold fmv at HC;rw[un hk]at HC;go_wp2_with fail;refine HC.mono ?_;rintro e y1 ⟨r,rfl,hbd,hb⟩;obtain⟨x0,x1,x2,x3,rfl,hl1,hl2,hz,hs⟩:=hbd.sg (.inr (.inl (un hk))) (un ho).1 (un ho).2;have HL:Hid (lpf (F i).a<=11/\rpf (F i).a<=11):=(⟨hl1,hl2⟩:_/\_)
 have HS:Hid (sgf (F i).a=[32]++(byt (spl x0)++[32])):=hs;have HF2:=Fq.call HF1 hb;clear HC hb hbd hl1 hl2 hs HF1 c0 c1 c2 c3 c4 c5 c6 c7 c8;go_upto_region 7 with fail;have hB:=alloc_at y1 #[.int .i64 x0,.int .i64 x1,.int .i64 x2,.int .i64 x3,.int .i64 (lpf (F i).a),.int .i64 (rpf (F i).a)] 147;have HF3:=Fq.call HF2 (bel1 y1 (.cells #[.int .i64 x0,.int .i64 x1,.int .i64 x2,.int .i64 x3,.int .i64 (lpf (F i).a),.int .i64 (rpf (F i).a)] 147));have hgb:y1.heap.size≠b:=Nat.ne_of_gt (un HF2).q.lt;obtain⟨y2,hy2⟩:∃y2,y2=y1.alloc (.cells #[.int .i64 x0,.int .i64 x1,.int .i64 x2,.int .i64 x3,.int .i64 (lpf (F i).a),.int .i64 (rpf (F i).a)] 147):=⟨_,rfl⟩
 obtain⟨g2,hg2⟩:∃g2,g2=y1.heap.size:=⟨_,rfl⟩
 rw[<-hg2]at hB hgb;rw[<-hy2]at hB HF3;rw[<-hy2,<-hg2];clear hy2 hg2 HF2;have q4:y2.cell? ⟨g2,4,none⟩=some (.int .i64 (lpf (F i).a)):=cell_of hB rfl;obtain⟨ad,rfl,hck,k0⟩:=Fq.kid HF3 (j:=0) (by have:=un hq;omega);rw[add_z]at k0;have j0:(0:Int)<((F i).q:Int):=by have:=un hq;omega
 obtain⟨c0,c1,c2,c3,c4,c5,c6,c7,c8⟩:=Fq.cs HF3;clear c0 c1 c2 c3 c4 c5 c6 c7;have HFD:=Fq.call HF3 (be_drew y2);have HC:=Fq.stepo HFD ((un H0) _ (un HL).1) (hB:(World.drew _).heap[_]? =_) hgb (by decide);have s0:=And.intro c8 (And.intro k0 q4);go_upto_region 7 with fail
 go_region_held_law (λW'=>W'.cell? ⟨g,8,none⟩=some (.slice (some ad) (F i).q ck)/\W'.cell? ad=some (.int .i64 ((F i).K 0))/\W'.cell? ⟨g2,4,none⟩=some (.int .i64 (lpf (F i).a))) (first|exact v|exact s0) ((go_at_call 108;refine HC.mono ?_;rintro e y3 ⟨rfl,HF4,hB2⟩;obtain⟨_,e2,-,v2⟩:=Fq.kid HF4 (j:=0) (by have:=un hq;omega);obtain rfl:=Option.some.inj e2;rw[add_z]at v2;have v:=And.intro (Fq.cs HF4).2.2.2.2.2.2.2.2 (And.intro v2 (cell_of (j:=4) hB2 rfl))))
 clear HFD HC HF3 s0 v v2 hB c8 k0 q4 j0;have q0:y3.cell? ⟨g2,0,none⟩=some (.int .i64 x0):=cell_of hB2 rfl;have HC:=impl_spell x0 y3 ((un HF4).q.bel.gd (un hg).1);go_wp2_with fail;refine HC.mono ?_;rintro e y4 ⟨rfl,hy⟩;rw[hy];clear HC hy q0;have HC:=λty hT=>Fq.say3o HF4 ⟨#[32]⟩ (spl x0) ⟨#[32]⟩ (by decide) (by omega) (by decide) ty hT hB2 hgb (by decide);go_wp2_with fail;refine(HC _ (by decide)).mono ?_;rintro e y5 ⟨rfl,HF5,hB⟩;clear HC HF4 hB2 hz y4;have q5:y5.cell? ⟨g2,5,none⟩=some (.int .i64 (rpf (F i).a)):=cell_of hB rfl;obtain⟨_,e1,-,k1⟩:=Fq.kid HF5 (j:=1) (by have:=un hq;omega);obtain rfl:=Option.some.inj e1;replace k1:World.cell? _ ⟨ad.block,ad.off+1,none⟩=_:=k1;have j1:(1:Int)<((F i).q:Int):=by have:=un hq;omega
 obtain⟨c0,c1,c2,c3,c4,c5,c6,c7,c8⟩:=Fq.cs HF5;clear c0 c1 c2 c3 c4 c5 c6 c7;have HFD:=Fq.call HF5 (be_drew y5);have HC:=Fq.stepo HFD ((un H1) _ (un HL).2) (hB:(World.drew _).heap[_]? =_) hgb (by decide);have s0:=And.intro c8 (And.intro k1 q5);go_upto_region 9 with fail
 go_region_held_law (λW'=>W'.cell? ⟨g,8,none⟩=some (.slice (some ad) (F i).q ck)/\W'.cell? ⟨ad.block,ad.off+1,none⟩=some (.int .i64 ((F i).K 1))/\W'.cell? ⟨g2,5,none⟩=some (.int .i64 (rpf (F i).a))) (first|exact v|exact s0) ((go_at_call 108;refine HC.mono ?_;rintro e y6 ⟨rfl,HF6,hB2⟩;obtain⟨_,e2,-,v2⟩:=Fq.kid HF6 (j:=1) (by have:=un hq;omega);obtain rfl:=Option.some.inj e2;have v:=And.intro (Fq.cs HF6).2.2.2.2.2.2.2.2 (And.intro v2 (cell_of (j:=5) hB2 rfl))))
 exact⟨rfl,.tuple #[],by simp[results,Tryz.results94],rfl,Fq.done HF6 (by rw[un HS];rfl)⟩
theorem qe_31(hk:Hid ((F i).a.k=31))(hg:Hid (Gd w/\w.rangeAt 4 0 bondA.toList/\12<=w.heap.size))(ho:Hid (((F i).a.k=28\/(F i).a.k=29->(F i).a.o=0)/\((F i).a.k=31->1<=(F i).a.o/\(F i).a.o<=18)))(hq:Hid ((F i).q=2))(H0:Hid (∀le:Int,le<=11->Cq w b (.slice (some cd) n cf) t 108 #[.pointer (some ⟨b,0,none⟩),.int .i64 ((F i).K 0),.int .i64 le] (par X (pwf (F (kn F i 0)).a) le)))(H1:Hid (∀le:Int,le<=11->Cq w b (.slice (some cd) n cf) t 108 #[.pointer (some ⟨b,0,none⟩),.int .i64 ((F i).K 1),.int .i64 le] (par Y (pwf (F (kn F i 1)).a) le))):Qv w b cd n cf F t 94 i (par X (pwf (F (kn F i 0)).a) (lpf (F i).a)++sgf (F i).a++par Y (pwf (F (kn F i 1)).a) (rpf (F i).a)):=by
 intro pn cn pk ck rn rk l W h;obtain⟨V,g,hV,hg,HF1⟩:=Fq.start h rn rk;clear h rn rk;unfold fmv;go_enter Tryz.func94,Tryz.ntmps94;go_upto_region 1 with fail
 try rw[hV]
 try rw[hg]
 clear hV hg;obtain⟨c0,c1,c2,c3,c4,c5,c6,c7,c8⟩:=Fq.cs HF1;rw[un hk]at c0;have HC:=im_bond (F i).a (.slice pn (F i).p cn) (.slice pk (F i).q ck) V (λj v hv=>((un HF1).q.bel.cell (p:=⟨4,0+j,none⟩) (by have:=(un hg).2.2;show 4<_;omega)).trans ((un hg).2.1 j v hv)) (by have:=(un hg).2.2;have:=(un HF1).q.bel.size;omega);unfold fmv at HC;rw[un hk]at HC;go_wp2_with fail;refine HC.mono ?_;rintro e y1 ⟨r,rfl,hbd,hb⟩;obtain⟨x0,x1,x2,x3,rfl,hl1,hl2,hz,hs⟩:=hbd.sg (.inr (.inr (un hk))) (un ho).1 (un ho).2;have HL:Hid (lpf (F i).a<=11/\rpf (F i).a<=11):=(⟨hl1,hl2⟩:_/\_)
 have HS:Hid (sgf (F i).a=[32]++(byt (spl x0)++[32])):=hs;have HF2:=Fq.call HF1 hb;clear HC hb hbd hl1 hl2 hs HF1 c0 c1 c2 c3 c4 c5 c6 c7 c8;go_upto_region 7 with fail;have hB:=alloc_at y1 #[.int .i64 x0,.int .i64 x1,.int .i64 x2,.int .i64 x3,.int .i64 (lpf (F i).a),.int .i64 (rpf (F i).a)] 147;have HF3:=Fq.call HF2 (bel1 y1 (.cells #[.int .i64 x0,.int .i64 x1,.int .i64 x2,.int .i64 x3,.int .i64 (lpf (F i).a),.int .i64 (rpf (F i).a)] 147));have hgb:y1.heap.size≠b:=Nat.ne_of_gt (un HF2).q.lt;obtain⟨y2,hy2⟩:∃y2,y2=y1.alloc (.cells #[.int .i64 x0,.int .i64 x1,.int .i64 x2,.int .i64 x3,.int .i64 (lpf (F i).a),.int .i64 (rpf (F i).a)] 147):=⟨_,rfl⟩
 obtain⟨g2,hg2⟩:∃g2,g2=y1.heap.size:=⟨_,rfl⟩
 rw[<-hg2]at hB hgb;rw[<-hy2]at hB HF3;rw[<-hy2,<-hg2];clear hy2 hg2 HF2;have q4:y2.cell? ⟨g2,4,none⟩=some (.int .i64 (lpf (F i).a)):=cell_of hB rfl;obtain⟨ad,rfl,hck,k0⟩:=Fq.kid HF3 (j:=0) (by have:=un hq;omega);rw[add_z]at k0;have j0:(0:Int)<((F i).q:Int):=by have:=un hq;omega
 obtain⟨c0,c1,c2,c3,c4,c5,c6,c7,c8⟩:=Fq.cs HF3;clear c0 c1 c2 c3 c4 c5 c6 c7;have HFD:=Fq.call HF3 (be_drew y2);have HC:=Fq.stepo HFD ((un H0) _ (un HL).1) (hB:(World.drew _).heap[_]? =_) hgb (by decide);have s0:=And.intro c8 (And.intro k0 q4);go_upto_region 7 with fail
 go_region_held_law (λW'=>W'.cell? ⟨g,8,none⟩=some (.slice (some ad) (F i).q ck)/\W'.cell? ad=some (.int .i64 ((F i).K 0))/\W'.cell? ⟨g2,4,none⟩=some (.int .i64 (lpf (F i).a))) (first|exact v|exact s0) ((go_at_call 108;refine HC.mono ?_;rintro e y3 ⟨rfl,HF4,hB2⟩;obtain⟨_,e2,-,v2⟩:=Fq.kid HF4 (j:=0) (by have:=un hq;omega);obtain rfl:=Option.some.inj e2;rw[add_z]at v2;have v:=And.intro (Fq.cs HF4).2.2.2.2.2.2.2.2 (And.intro v2 (cell_of (j:=4) hB2 rfl))))
 clear HFD HC HF3 s0 v v2 hB c8 k0 q4 j0;have q0:y3.cell? ⟨g2,0,none⟩=some (.int .i64 x0):=cell_of hB2 rfl;have HC:=impl_spell x0 y3 ((un HF4).q.bel.gd (un hg).1);go_wp2_with fail;refine HC.mono ?_;rintro e y4 ⟨rfl,hy⟩;rw[hy];clear HC hy q0;have HC:=λty hT=>Fq.say3o HF4 ⟨#[32]⟩ (spl x0) ⟨#[32]⟩ (by decide) (by omega) (by decide) ty hT hB2 hgb (by decide);go_wp2_with fail;refine(HC _ (by decide)).mono ?_;rintro e y5 ⟨rfl,HF5,hB⟩;clear HC HF4 hB2 hz y4;have q5:y5.cell? ⟨g2,5,none⟩=some (.int .i64 (rpf (F i).a)):=cell_of hB rfl;obtain⟨_,e1,-,k1⟩:=Fq.kid HF5 (j:=1) (by have:=un hq;omega);obtain rfl:=Option.some.inj e1;replace k1:World.cell? _ ⟨ad.block,ad.off+1,none⟩=_:=k1;have j1:(1:Int)<((F i).q:Int):=by have:=un hq;omega
 obtain⟨c0,c1,c2,c3,c4,c5,c6,c7,c8⟩:=Fq.cs HF5;clear c0 c1 c2 c3 c4 c5 c6 c7;have HFD:=Fq.call HF5 (be_drew y5);have HC:=Fq.stepo HFD ((un H1) _ (un HL).2) (hB:(World.drew _).heap[_]? =_) hgb (by decide);have s0:=And.intro c8 (And.intro k1 q5);go_upto_region 9 with fail
 go_region_held_law (λW'=>W'.cell? ⟨g,8,none⟩=some (.slice (some ad) (F i).q ck)/\W'.cell? ⟨ad.block,ad.off+1,none⟩=some (.int .i64 ((F i).K 1))/\W'.cell? ⟨g2,5,none⟩=some (.int .i64 (rpf (F i).a))) (first|exact v|exact s0) ((go_at_call 108;refine HC.mono ?_;rintro e y6 ⟨rfl,HF6,hB2⟩;obtain⟨_,e2,-,v2⟩:=Fq.kid HF6 (j:=1) (by have:=un hq;omega);obtain rfl:=Option.some.inj e2;have v:=And.intro (Fq.cs HF6).2.2.2.2.2.2.2.2 (And.intro v2 (cell_of (j:=5) hB2 rfl))))
 exact⟨rfl,.tuple #[],by simp[results,Tryz.results94],rfl,Fq.done HF6 (by rw[un HS];rfl)⟩
def tokP(i:Nat):Int:=([25,62,50,69]:List Int).getD i 0
def opP(i:Nat):Int:=([21,19,22,20]:List Int).getD i 0
def prefA:Array Value:=#[.int .i64 25,.int .i64 21,.int .i64 62,.int .i64 19,.int .i64 50,.int .i64 22,.int .i64 69,.int .i64 20]
theorem pref_0(W:World):(Instr.index 162 (.agg prefA) (.int .i64 0)).run Tryz.prog W=.ok (.agg #[.int .i64 25,.int .i64 21]) W:=by kernel_rfl
theorem pref_1(W:World):(Instr.index 162 (.agg prefA) (.int .i64 1)).run Tryz.prog W=.ok (.agg #[.int .i64 62,.int .i64 19]) W:=by kernel_rfl
theorem pref_2(W:World):(Instr.index 162 (.agg prefA) (.int .i64 2)).run Tryz.prog W=.ok (.agg #[.int .i64 50,.int .i64 22]) W:=by kernel_rfl
theorem pref_3(W:World):(Instr.index 162 (.agg prefA) (.int .i64 3)).run Tryz.prog W=.ok (.agg #[.int .i64 69,.int .i64 20]) W:=by kernel_rfl
theorem pref_at(i:Nat)(hi:i<4)(W:World):(Instr.index 162 (.agg prefA) (.int .i64 i)).run Tryz.prog W=.ok (.agg #[.int .i64 (tokP i),.int .i64 (opP i)]) W:=by
 have h:i=0\/i=1\/i=2\/i=3:=by omega
 rcases h with rfl|rfl|rfl|rfl
 ·exact pref_0 W
 ·exact pref_1 W
 ·exact pref_2 W
 ·exact pref_3 W
theorem tokP_sz:∀i:Fin 4,(spl (tokP i.val)).size<=100:=by decide+kernel
def pfl (o:Int):Nat->List UInt8
 |0=>[]
 |i+1=>pfl o i++(if opP i=o then byt (spl (tokP i))else [])
theorem pfl_4:pfl 21 4=[110,111,116]/\pfl 19 4=[45]/\pfl 22 4=[35]/\pfl 20 4=[126]:=by decide+kernel
theorem qp_pre(hg:Hid (Gd w/\w.rangeAt 5 0 prefA.toList/\12<=w.heap.size))(ho:Hid (19<=(F i).a.o/\(F i).a.o<=22))(hq:Hid ((F i).q=1))(A2:Am w n cf cd F kk)(hkk:Hid ((F i).K 0=(kk:Int)))(H:Hid (Cq w b (.slice (some cd) n cf) t 108 #[.pointer (some ⟨b,0,none⟩),.int .i64 kk,.int .i64 11] Y)):Qv w b cd n cf F t 109 i (upf (F i).a.o (F kk).a++Y):=by
  intro pn cn pk ck rn rk l W h;obtain⟨V,g,hV,hg,HF1⟩:=Fq.start h rn rk;clear h rn rk;unfold fmv;go_enter Tryz.func109,Tryz.ntmps109;go_upto_region 1 with fail
  try rw[hV]
  try rw[hg]
  clear hV hg;have HR:Hid (V.rangeAt 5 0 prefA.toList):=(λj v hv=>((un HF1).q.bel.cell (p:=⟨5,0+j,none⟩) (by have:=(un hg).2.2;show 5<_;omega)).trans ((un hg).2.1 j v hv):∀j v,_)
  have H0:Hid (Fq w b (.slice (some cd) n cf) t l W g (F i) pn cn pk ck (pfl (F i).a.o 0) V):=HF1;clear HF1;go_wp2_with (refine wpList_load_mid rfl 162 (.global 5) rfl 5 0 rfl prefA.toList _ HR Tryz.underlying162 rfl (by kernel_rfl) ?_);clear HR
  go_loopw [8] (λs8 wr=>∃j:Nat,s8=.int .i64 j/\j<=4/\Hid (Fq w b (.slice (some cd) n cf) t l W g (F i) pn cn pk ck (pfl (F i).a.o j) wr)) (λs8 _=>4-(intOf s8).toNat)
  case atStart=>exact⟨0,rfl,Nat.zero_le _,H0⟩
  case round=>
    clear H0;obtain⟨j,rfl,hj4,HX⟩:=hrel;by_cases hj:j<4
    · have hjI:(j:Int)<4:=by omega
      have hgi:=pref_at j hj;have HFo:=λo=>Fq.call HX (bel1 wr o);have c4:wr.cell? ⟨g,4,none⟩=some (.int .i64 (F i).a.o):=(Fq.cs HX).2.2.2.2.1;have hlt:=lt_of_cell c4;have hne0:(g==wr.heap.size)=false:=by rw[beq_eq_false_iff_ne];omega
      have HSP:=λo=>impl_spell (tokP j) (wr.alloc o) ((un (HFo o)).q.bel.gd (un hg).1);have hsz:=tokP_sz ⟨j,hj⟩;obtain⟨tk,htk⟩:∃tk,tk=tokP j:=⟨_,rfl⟩
      obtain⟨op,hop⟩:∃op,op=opP j:=⟨_,rfl⟩
      have HT:Hid (tk=tokP j/\op=opP j):=(⟨htk,hop⟩:_/\_)
      rw[show tokP (⟨j,hj⟩:Fin 4).val=tokP j from rfl,<-htk]at hsz;rw[<-htk]at HSP;rw[<-htk,<-hop]at hgi;clear htk hop hj;by_cases he:op=(F i).a.o
      · have hb:(op==(F i).a.o)=true:=beq_iff_eq.2 he;have HE:Hid (op=(F i).a.o):=he;clear he;go_wp2_with fail;refine(HSP _).mono ?_;rintro e y1 ⟨rfl,hy⟩;have HFy:Hid (Fq w b (.slice (some cd) n cf) t l W g (F i) pn cn pk ck (pfl (F i).a.o j) y1):=by rw[hy];exact HFo _
        have HC:=λty hT=>Fq.say1 HFy (spl tk) (by omega) ty hT;clear hy c4 hgi hb hne0 hlt;go_wp2_with fail;refine(HC _ (by decide)).mono ?_;rintro e y2 ⟨rfl,HN⟩
        have HN2:Hid (Fq w b (.slice (some cd) n cf) t l W g (F i) pn cn pk ck (pfl (F i).a.o (j+1)) y2):=by
          have e:pfl (F i).a.o (j+1)=pfl (F i).a.o j++byt (spl tk):=by
            show pfl _ j++_=_;rw[if_pos ((un HT).2.symm.trans (un HE)),(un HT).1]
          rw[e];exact HN
        clear HC HSP HFo HFy HN hsz HX;go_wp2_with fail;go_roundw
        case rel=>exact⟨j+1,by go_num,by omega,HN2⟩
        case measure=>simp[intOf];omega
      · have hb:(op==(F i).a.o)=false:=beq_eq_false_iff_ne.2 he
        have HN:Hid (∀o,Hid (Fq w b (.slice (some cd) n cf) t l W g (F i) pn cn pk ck (pfl (F i).a.o (j+1)) (wr.alloc o))):=(λo=>by
          have e:pfl (F i).a.o (j+1)=pfl (F i).a.o j:=by
            show pfl _ j++_=_;rw[if_neg (λh=>he ((un HT).2.trans h)),List.append_nil]
          rw[e]
          exact HFo o:∀o,_)
        clear HSP HFo hsz HX he HT;go_wp2_with fail;go_roundw
        case rel=>exact⟨j+1,by go_num,by omega,(uh HN) _⟩
        case measure=>simp[intOf];omega
    · obtain rfl:j=4:=by omega
      clear hj hj4;have n4:¬((4:Nat):Int)<4:=by decide
      obtain⟨y1,hy⟩:∃y1,y1=wr:=⟨_,rfl⟩
      subst hy;have HF2:Hid (Fq w b (.slice (some cd) n cf) t l W g (F i) pn cn pk ck (pfl (F i).a.o 4) y1):=HX;clear HX;obtain⟨c0,c1,c2,c3,c4,c5,c6,c7,c8⟩:=Fq.cs HF2;obtain⟨ad,e1,hck,k0⟩:=Fq.kid HF2 (j:=0) (by have:=un hq;omega);subst e1;rw[un hkk]at k0;rw[add_z]at k0;have j0:(0:Int)<((F i).q:Int):=by have:=un hq;omega
      have hi:(kk:Int)<(n:Int):=by have:=A2.hi;omega
      have hn:(n:Int)<=3000:=by have:=A2.hn;omega
      have b0:=(un HF2).q.frm;obtain⟨p2,u2,p3,u3,h9,rn2,rk2,-⟩:=A2.get;have h9w:=h9;obtain⟨⟨d0,d1,d2,d3,d4,d5,d6,d7,d8⟩,h9⟩:=h9.bothz (un HF2).q.bel;have c8o:=λo=>(Fq.cs (Fq.call HF2 (bel1 y1 o))).2.2.2.2.2.2.2.2;have b0o:=λo=>(un (Fq.call HF2 (bel1 y1 o))).q.frm;have k0o:=λo=>((bel1 y1 o).cell (lt_of_cell' k0)).trans k0;have d0o:=λo=>(h9 o).c0;have d1o:=λo=>(h9 o).c1;have d2o:=λo=>(h9 o).c2;have d3o:=λo=>(h9 o).c3;have d4o:=λo=>(h9 o).c4;have d5o:=λo=>(h9 o).c5;have d6o:=λo=>(h9 o).c6;have d7o:=λo=>(h9 o).c7;have d8o:=λo=>(h9 o).c8;clear h9w;clear h9;clear c0 c1 c2 c3 c4 c5 c6 c7;go_upto_region 7 with fail
      go_region
      generalize hV2:World.drew _=V2;have HF3:=Fq.third HF2 hV2;have hB2:=new_cells hV2;have f0:V2.cell? ⟨_,0,none⟩=_:=cell_of hB2 rfl;have f1:V2.cell? ⟨_,1,none⟩=_:=cell_of hB2 rfl;have f2:V2.cell? ⟨_,2,none⟩=_:=cell_of hB2 rfl;have f3:V2.cell? ⟨_,3,none⟩=_:=cell_of hB2 rfl;have f4:V2.cell? ⟨_,4,none⟩=_:=cell_of hB2 rfl;have f5:V2.cell? ⟨_,5,none⟩=_:=cell_of hB2 rfl;have f6:V2.cell? ⟨_,6,none⟩=_:=cell_of hB2 rfl;have f7:V2.cell? ⟨_,7,none⟩=_:=cell_of hB2 rfl;have f8:V2.cell? ⟨_,8,none⟩=_:=cell_of hB2 rfl;clear hV2 hB2 HF2 hi hn b0 b0o c8 c8o k0 k0o j0 d0 d1 d2 d3 d4 d5 d6 d7 d8 d0o d1o d2o d3o d4o d5o d6o d7o d8o;replace f0:V2.cell? ⟨y1.heap.size,0,none⟩=some (.int .i64 (F kk).a.k):=f0;replace f4:V2.cell? ⟨y1.heap.size,4,none⟩=some (.int .i64 (F kk).a.o):=f4;rcases(by have:=un ho;omega:(F i).a.o=21\/(F i).a.o=22\/(F i).a.o=20\/(F i).a.o=19)with h1|h1|h1|h1
      · have HUU : pfl (F i).a.o 4 ++ byt ⟨#[32]⟩ = upf (F i).a.o (F kk).a := by
          rw[h1,pfl_4.1];unfold upf;rw[if_pos rfl];rfl
        have HU:Hid (pfl (F i).a.o 4++byt ⟨#[32]⟩=upf (F i).a.o (F kk).a):=HUU;have c4:V2.cell? ⟨g,4,none⟩=some (.int .i64 (F i).a.o):=(Fq.cs HF3).2.2.2.2.1;rw[h1]at c4;clear h1 HUU;have HC:=λty hT=>Fq.say1 HF3 ⟨#[32]⟩ (by decide) ty hT;go_wp2_with fail;refine(HC _ (by decide)).mono ?_;rintro e y3 ⟨rfl,HF4⟩;clear HC HF3 c4 f0 f1 f2 f3 f4 f5 f6 f7 f8;obtain⟨_,e1,-,k0⟩:=Fq.kid HF4 (j:=0) (by have:=un hq;omega);obtain rfl:=Option.some.inj e1;rw[un hkk,add_z]at k0;have j0:(0:Int)<((F i).q:Int):=by have:=un hq;omega
        have c8:=(Fq.cs HF4).2.2.2.2.2.2.2.2;have HC:=Fq.step HF4 (un H);go_wp2_with fail;refine HC.mono ?_;rintro e z ⟨rfl,HZ⟩;clear HC HF4 k0 j0;go_wp2_with fail;exact⟨rfl,.tuple #[],by simp[results,Tryz.results109],rfl,Fq.done HZ (by rw[un HU])⟩
      · have HUU : pfl (F i).a.o 4 = upf (F i).a.o (F kk).a := by
          rw[h1,pfl_4.2.2.1];unfold upf;rw[if_neg (by decide),if_pos rfl]
        have HU:Hid (pfl (F i).a.o 4=upf (F i).a.o (F kk).a):=HUU;have c4:V2.cell? ⟨g,4,none⟩=some (.int .i64 (F i).a.o):=(Fq.cs HF3).2.2.2.2.1;rw[h1]at c4;clear h1 HUU;obtain⟨_,e1,-,k0⟩:=Fq.kid HF3 (j:=0) (by have:=un hq;omega);obtain rfl:=Option.some.inj e1;rw[un hkk,add_z]at k0;have j0:(0:Int)<((F i).q:Int):=by have:=un hq;omega
        have c8:=(Fq.cs HF3).2.2.2.2.2.2.2.2;have HC:=Fq.step HF3 (un H);go_wp2_with fail;refine HC.mono ?_;rintro e z ⟨rfl,HZ⟩;clear HC HF3 k0 j0;go_wp2_with fail;exact⟨rfl,.tuple #[],by simp[results,Tryz.results109],rfl,Fq.done HZ (by rw[un HU])⟩
      · have HUU : pfl (F i).a.o 4 = upf (F i).a.o (F kk).a := by
          rw[h1,pfl_4.2.2.2];unfold upf;rw[if_neg (by decide),if_neg (by decide),if_pos rfl]
        have HU:Hid (pfl (F i).a.o 4=upf (F i).a.o (F kk).a):=HUU;have c4:V2.cell? ⟨g,4,none⟩=some (.int .i64 (F i).a.o):=(Fq.cs HF3).2.2.2.2.1;rw[h1]at c4;clear h1 HUU;obtain⟨_,e1,-,k0⟩:=Fq.kid HF3 (j:=0) (by have:=un hq;omega);obtain rfl:=Option.some.inj e1;rw[un hkk,add_z]at k0;have j0:(0:Int)<((F i).q:Int):=by have:=un hq;omega
        have c8:=(Fq.cs HF3).2.2.2.2.2.2.2.2;have HC:=Fq.step HF3 (un H);go_wp2_with fail;refine HC.mono ?_;rintro e z ⟨rfl,HZ⟩;clear HC HF3 k0 j0;go_wp2_with fail;exact⟨rfl,.tuple #[],by simp[results,Tryz.results109],rfl,Fq.done HZ (by rw[un HU])⟩
      · by_cases h30:(F kk).a.k=30/\(F kk).a.o=19
        · have HUU : pfl (F i).a.o 4 ++ byt ⟨#[32]⟩ = upf (F i).a.o (F kk).a := by
            rw[h1,pfl_4.2.1];unfold upf;rw[if_neg (by decide),if_neg (by decide),if_neg (by decide),if_pos h30];rfl
          rw[h30.1]at f0;rw[h30.2]at f4;clear h30;have HU:Hid (pfl (F i).a.o 4++byt ⟨#[32]⟩=upf (F i).a.o (F kk).a):=HUU;have c4:V2.cell? ⟨g,4,none⟩=some (.int .i64 (F i).a.o):=(Fq.cs HF3).2.2.2.2.1;rw[h1]at c4;clear h1 HUU;have HC:=λty hT=>Fq.say1 HF3 ⟨#[32]⟩ (by decide) ty hT;go_wp2_with fail;refine(HC _ (by decide)).mono ?_;rintro e y3 ⟨rfl,HF4⟩;clear HC HF3 c4 f0 f1 f2 f3 f4 f5 f6 f7 f8;obtain⟨_,e1,-,k0⟩:=Fq.kid HF4 (j:=0) (by have:=un hq;omega);obtain rfl:=Option.some.inj e1;rw[un hkk,add_z]at k0;have j0:(0:Int)<((F i).q:Int):=by have:=un hq;omega
          have c8:=(Fq.cs HF4).2.2.2.2.2.2.2.2;have HC:=Fq.step HF4 (un H);go_wp2_with fail;refine HC.mono ?_;rintro e z ⟨rfl,HZ⟩;clear HC HF4 k0 j0;go_wp2_with fail;exact⟨rfl,.tuple #[],by simp[results,Tryz.results109],rfl,Fq.done HZ (by rw[un HU])⟩
        · have HUU : pfl (F i).a.o 4 = upf (F i).a.o (F kk).a := by
            rw[h1,pfl_4.2.1];unfold upf;rw[if_neg (by decide),if_neg (by decide),if_neg (by decide),if_neg h30]
          have hor:((F kk).a.k=30/\((F kk).a.o==19)=false)\/((F kk).a.k==30)=false:=by
            by_cases h:(F kk).a.k=30
            · exact .inl ⟨h,by rw[beq_eq_false_iff_ne];exact λe=>h30 ⟨h,e⟩⟩
            · exact .inr (by rw[beq_eq_false_iff_ne];exact h)
          clear h30;rcases hor with⟨h30,n19⟩|n30
          · rw[h30]at f0;clear h30;have HU:Hid (pfl (F i).a.o 4=upf (F i).a.o (F kk).a):=HUU;have c4:V2.cell? ⟨g,4,none⟩=some (.int .i64 (F i).a.o):=(Fq.cs HF3).2.2.2.2.1;rw[h1]at c4;clear h1 HUU;obtain⟨_,e1,-,k0⟩:=Fq.kid HF3 (j:=0) (by have:=un hq;omega);obtain rfl:=Option.some.inj e1;rw[un hkk,add_z]at k0;have j0:(0:Int)<((F i).q:Int):=by have:=un hq;omega
            have c8:=(Fq.cs HF3).2.2.2.2.2.2.2.2;have HC:=Fq.step HF3 (un H);go_wp2_with fail;refine HC.mono ?_;rintro e z ⟨rfl,HZ⟩;clear HC HF3 k0 j0;go_wp2_with fail;exact⟨rfl,.tuple #[],by simp[results,Tryz.results109],rfl,Fq.done HZ (by rw[un HU])⟩
          · have HU:Hid (pfl (F i).a.o 4=upf (F i).a.o (F kk).a):=HUU;have c4:V2.cell? ⟨g,4,none⟩=some (.int .i64 (F i).a.o):=(Fq.cs HF3).2.2.2.2.1;rw[h1]at c4;clear h1 HUU;obtain⟨_,e1,-,k0⟩:=Fq.kid HF3 (j:=0) (by have:=un hq;omega);obtain rfl:=Option.some.inj e1;rw[un hkk,add_z]at k0;have j0:(0:Int)<((F i).q:Int):=by have:=un hq;omega
            have c8:=(Fq.cs HF3).2.2.2.2.2.2.2.2;have HC:=Fq.step HF3 (un H);go_wp2_with fail;refine HC.mono ?_;rintro e z ⟨rfl,HZ⟩;clear HC HF3 k0 j0;go_wp2_with fail;exact⟨rfl,.tuple #[],by simp[results,Tryz.results109],rfl,Fq.done HZ (by rw[un HU])⟩
def tokU(i:Nat):Int:=([2,3,4,24,29,17,49,1]:List Int).getD i 0
def frmU(i:Nat):Int:=([23,24,25,20,21,22,27,26]:List Int).getD i 0
def unitA:Array Value:=#[.int .i64 2,.int .i64 23,.int .i64 3,.int .i64 24,.int .i64 4,.int .i64 25,.int .i64 24,.int .i64 20,.int .i64 29,.int .i64 21,.int .i64 17,.int .i64 22,.int .i64 49,.int .i64 27,.int .i64 1,.int .i64 26]
theorem unit_0(W:World):(Instr.index 164 (.agg unitA) (.int .i64 0)).run Tryz.prog W=.ok (.agg #[.int .i64 2,.int .i64 23]) W:=by kernel_rfl
theorem unit_1(W:World):(Instr.index 164 (.agg unitA) (.int .i64 1)).run Tryz.prog W=.ok (.agg #[.int .i64 3,.int .i64 24]) W:=by kernel_rfl
theorem unit_2(W:World):(Instr.index 164 (.agg unitA) (.int .i64 2)).run Tryz.prog W=.ok (.agg #[.int .i64 4,.int .i64 25]) W:=by kernel_rfl
theorem unit_3(W:World):(Instr.index 164 (.agg unitA) (.int .i64 3)).run Tryz.prog W=.ok (.agg #[.int .i64 24,.int .i64 20]) W:=by kernel_rfl
theorem unit_4(W:World):(Instr.index 164 (.agg unitA) (.int .i64 4)).run Tryz.prog W=.ok (.agg #[.int .i64 29,.int .i64 21]) W:=by kernel_rfl
theorem unit_5(W:World):(Instr.index 164 (.agg unitA) (.int .i64 5)).run Tryz.prog W=.ok (.agg #[.int .i64 17,.int .i64 22]) W:=by kernel_rfl
theorem unit_6(W:World):(Instr.index 164 (.agg unitA) (.int .i64 6)).run Tryz.prog W=.ok (.agg #[.int .i64 49,.int .i64 27]) W:=by kernel_rfl
theorem unit_7(W:World):(Instr.index 164 (.agg unitA) (.int .i64 7)).run Tryz.prog W=.ok (.agg #[.int .i64 1,.int .i64 26]) W:=by kernel_rfl
theorem unit_at(i:Nat)(hi:i<8)(W:World):(Instr.index 164 (.agg unitA) (.int .i64 i)).run Tryz.prog W=.ok (.agg #[.int .i64 (tokU i),.int .i64 (frmU i)]) W:=by
 have h:i=0\/i=1\/i=2\/i=3\/i=4\/i=5\/i=6\/i=7:=by omega
 rcases h with rfl|rfl|rfl|rfl|rfl|rfl|rfl|rfl
 ·exact unit_0 W
 ·exact unit_1 W
 ·exact unit_2 W
 ·exact unit_3 W
 ·exact unit_4 W
 ·exact unit_5 W
 ·exact unit_6 W
 ·exact unit_7 W
theorem unit_of(k:Int)(h0:20<=k)(h1:k<=27):∃m,m<8/\frmU m=k/\∀j,j<m->frmU j≠k:=by
 have h:∀a:Fin 8,∃m,m<8/\frmU m=20+(a.val:Int)/\∀j,j<m->frmU j≠20+(a.val:Int):=by decide+kernel
 obtain⟨m,h2,h3,h4⟩:=h ⟨(k-20).toNat,by omega⟩;have e:(20:Int)+(((k-20).toNat:Nat):Int)=k:=by omega
 rw[show(20:Int)+(((⟨(k-20).toNat,by omega⟩:Fin 8).val:Nat):Int)=k from e]at h3 h4;exact⟨m,h2,h3,h4⟩
def PlI(w:World)(a:Fv)(wr:World):Prop:=Below w.heap.size w wr/\wr.cell? ⟨w.heap.size,0,none⟩=some (.int .i64 a.k)/\wr.cell? ⟨w.heap.size,5,none⟩=some (.int .i64 a.m)/\wr.cell? ⟨w.heap.size,6,none⟩=some (.string a.x)
theorem PlI.alloc{a:Fv}{wr:World}(h:PlI w a wr)(o:Obj):PlI w a (wr.alloc o):=by
 have hl:=lt_of_cell h.2.1;have hb:=bel1 wr o;exact⟨h.1.trans (hb.mono h.1.size),(hb.cell (p:=⟨w.heap.size,0,none⟩) hl).trans h.2.1,(hb.cell (p:=⟨w.heap.size,5,none⟩) hl).trans h.2.2.1,(hb.cell (p:=⟨w.heap.size,6,none⟩) hl).trans h.2.2.2⟩
theorem im_plain(a:Fv)(vn vk:Value)(R:ByteArray)(h0:20<=a.k)(h1:a.k<=27)(w:World)(hu:w.rangeAt 6 0 unitA.toList)(hgs:12<=w.heap.size)
  (hT:∀m,m<8->frmU m=a.k->∀W,Below w.heap.size w W->Calls Tryz.prog 121 #[.agg #[.int .i64 (tokU m),.int .i64 0,.int .i64 0,.int .i64 0,.int .i64 a.m,.string a.x]] W λe w'=>e=.returned (.string R)/\Rd.Kept W w'):
  Calls Tryz.prog 113 #[fmv a vn vk] w λe w'=>e=.returned (.string R)/\Rd.Kept w w':=by
 obtain⟨m,hm,hfm,hne⟩:=unit_of a.k h0 h1;have HT:Hid (∀W,Below w.heap.size w W->Calls Tryz.prog 121 #[.agg #[.int .i64 (tokU m),.int .i64 0,.int .i64 0,.int .i64 0,.int .i64 a.m,.string a.x]] W λe w'=>e=.returned (.string R)/\Rd.Kept W w'):=hT m hm hfm;have HF:Hid (m<8/\frmU m=a.k/\∀j,j<m->frmU j≠a.k):=(⟨hm,hfm,hne⟩:_/\_/\_)
 unfold fmv;have HO:Hid (PlI w a (w.alloc (.cells #[.int .i64 a.k,.int .i64 a.f,.int .i64 a.t,.int .i64 a.l,.int .i64 a.o,.int .i64 a.m,.string a.x,vn,vk] 44))):=(⟨bel1 w _,by simp,by simp,by simp⟩:_/\_/\_/\_)
 have HR:Hid ((w.alloc (.cells #[.int .i64 a.k,.int .i64 a.f,.int .i64 a.t,.int .i64 a.l,.int .i64 a.o,.int .i64 a.m,.string a.x,vn,vk] 44)).rangeAt 6 0 unitA.toList):=(λj v hv=>((bel1 w _).cell (p:=⟨6,0+j,none⟩) (by show 6<_;omega)).trans (hu j v hv):∀j v,_)
 clear hT hm hfm hne h0 h1 hu hgs;go_enter Tryz.func113,Tryz.ntmps113;go_wp2_with (refine wpList_load_mid rfl 164 (.global 6) rfl 6 0 rfl unitA.toList _ HR Tryz.underlying164 rfl (by kernel_rfl) ?_);clear HR
 go_loopw [6] (λs6 wr=>∃i:Nat,s6=.int .i64 i/\i<=m/\Hid (PlI w a wr)) (λs6 _=>8-(intOf s6).toNat)
 case atStart=>exact⟨0,rfl,Nat.zero_le _,HO⟩
 case round=>
  clear HO;obtain⟨i,rfl,him,HI⟩:=hrel;obtain⟨hm,hfm,hne⟩:=(uh HF)
  have hi8:(i:Int)<8:=by omega
  have hgi:=unit_at i (by omega);obtain⟨hB0,c0,c5,c6⟩:=(uh HI)
  have hlt:=lt_of_cell c0;have hne0:(w.heap.size==wr.heap.size)=false:=by rw[beq_eq_false_iff_ne];omega
  have HN:Hid (∀o,PlI w a (wr.alloc o)):=(λo=>(uh HI).alloc o:∀o,PlI w a (wr.alloc o))
  clear HI hB0;by_cases hj:i<m
  ·have hk:(frmU i==a.k)=false:=by rw[beq_eq_false_iff_ne];exact hne i hj
   clear hm hfm hne HT HF;generalize tokU i=U at*;generalize frmU i=V at*;go_wp2_with fail;go_roundw
   case rel=>exact⟨i+1,by go_num,by omega,(uh HN) _⟩
   case measure=>simp[intOf];omega
  ·obtain rfl:i=m:=by omega
   have hk:(frmU i==a.k)=true:=by rw[beq_iff_eq];exact hfm
   have hT:=λo=>(uh HT) (wr.alloc o) ((uh HN) o).1;have HK:Hid (∀o,Rd.Kept w (wr.alloc o)):=(λo=>((uh HN) o).1.frame _:∀o,Rd.Kept w (wr.alloc o))
   clear hm hfm hne HT HF HN;generalize tokU i=U at*;generalize frmU i=V at*;go_wp2_with fail;refine(hT _).mono ?_;rintro e w2 ⟨rfl,hk2⟩;have HK2:Hid (Rd.Kept w w2):=World.keptBut_trans ((uh HK) _) hk2;clear hT hk2 HK;go_wp2_with fail;go_ret;exact⟨rfl,HK2⟩
