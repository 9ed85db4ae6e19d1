import Derived.Test.YtkhdehngobkkfaaGreatDoorAPad
set_option maxHeartbeats 16000000
namespace Go.Proofs.YtkhdehngobkkfaaGreatDoor.Fo
open Go.ChangeShapes Go.WideShapes Go.ChangeAt Go.RowKit
set_option linter.unusedVariables false
set_option maxRecDepth 100000
variable {w W wr:World}{b t n i cf m g cn ck g2 t2:Nat}{cd:Addr}{F:Nat->Gv}{X Y l T:List UInt8}{ts:Nat->List UInt8}{pn pk:Option Addr}{fs:Value}{G:Gv}{c:Array Value}
theorem qd_0(hp:Hid ((F i).p<=200/\∀j,j<(F i).p->((F i).A j).size<=4000))(hq:Hid (0<(F i).q))(ho:Hid ((F i).a.o=0))(HB:Hid (Q1 w b cd n cf t 58 (.int .i64 ((F i).K 0)) (X))):Qv w b cd n cf F t 61 i ([40]++prm (F i)++[41,32]++X):=by
 intro pn cn pk ck rn rk l W h;obtain⟨V,g,hV,hg,HF1⟩:=Fq.start h rn rk;clear h rn rk;unfold fmv;go_enter Tryz.func61,Tryz.ntmps61;go_upto_region 1 with fail
 try rw[hV]
 try rw[hg]
 clear hV hg;have HC:=clone_own V ((un HF1).rn.kz (un HF1).q.bel) (by have:=(un hp).1;omega);have HRR:Hid (∀y v,y.ownsRow V.heap.size 9 1 v (F i).p (lst (λj=>.string ((F i).A j)) (F i).p)->∃pa ca,v=.slice pa (F i).p ca/\RowV y (.slice pa (F i).p ca) (F i).p (λj=>.string ((F i).A j))):=(λy v h=>own_rowv h:∀y v,_->_)
 obtain⟨c0,c1,c2,c3,c4,c5,c6,c7,c8⟩:=Fq.cs HF1;rw[un ho]at c4;go_wp2_with fail;refine HC.mono ?_;rintro e y1 ⟨v,rfl,hown,hb1⟩;obtain⟨pa,ca,rfl,hr⟩:=(uh HRR) _ _ hown;have HR:Hid _:=hr;have HF2:=Fq.call HF1 hb1;clear HC HRR hown hb1 hr HF1 c0 c1 c2 c3 c4 c5 c6 c7 c8;obtain⟨c0,c1,c2,c3,c4,c5,c6,c7,c8⟩:=Fq.cs HF2;rw[un ho]at c4;have HC:=im_jn (un HR) (by have:=(un hp).1;omega) (un hp).2;go_wp2_with fail;refine HC.mono ?_;rintro e y2 ⟨s,rfl,hs,hz,hb2⟩
 have HS:Hid (byt s=prm (F i)):=by
  refine hs.trans ?_;rw[prm_0 _ (by rw[un ho];decide)]
 have HF3:=Fq.call HF2 hb2;clear HC HR hs hb2 HF2 c0 c1 c2 c3 c4 c5 c6 c7 c8;obtain⟨c0,c1,c2,c3,c4,c5,c6,c7,c8⟩:=Fq.cs HF3;have HC:=λty hT=>Fq.say3 HF3 ⟨#[40]⟩ s ⟨#[41,32]⟩ (by decide) hz (by decide) ty hT;go_wp2_with fail;refine(HC _ (by decide)).mono ?_;rintro e y3 ⟨rfl,HF4⟩;clear HC HF3 c0 c1 c2 c3 c4 c5 c6 c7 c8 hz;obtain⟨ad,rfl,hck,k0⟩:=Fq.kid HF4 (j:=0) (by have:=un hq;omega);rw[add_z]at k0;have j0:(0:Int)<((F i).q:Int):=by have:=un hq;omega
 obtain⟨c0,c1,c2,c3,c4,c5,c6,c7,c8⟩:=Fq.cs HF4;have HC:=Fq.step HF4 (un HB);go_wp2_with fail;refine(HC).mono ?_;rintro e y4 ⟨rfl,HF5⟩;clear HC HF4 c0 c1 c2 c3 c4 c5 c6 c7 c8 k0 j0;go_wp2_with fail;exact⟨rfl,.tuple #[],by simp[results,Tryz.results61],rfl,Fq.done HF5 (by rw[show byt s=_ from HS];rfl)⟩
theorem qd_1(hg:Hid (Gd w))(hp:Hid ((F i).p<=200/\∀j,j<(F i).p->((F i).A j).size<=4000))(hq:Hid (0<(F i).q))(ho:Hid ((F i).a.o=1))(HB:Hid (Q1 w b cd n cf t 58 (.int .i64 ((F i).K 0)) (X))):Qv w b cd n cf F t 61 i ([40]++prm (F i)++[41,32]++X):=by
 intro pn cn pk ck rn rk l W h;obtain⟨V,g,hV,hg,HF1⟩:=Fq.start h rn rk;clear h rn rk;unfold fmv;go_enter Tryz.func61,Tryz.ntmps61;go_upto_region 1 with fail
 try rw[hV]
 try rw[hg]
 clear hV hg;have HC:=clone_own V ((un HF1).rn.kz (un HF1).q.bel) (by have:=(un hp).1;omega);obtain⟨c0,c1,c2,c3,c4,c5,c6,c7,c8⟩:=Fq.cs HF1;rw[un ho]at c4;go_wp2_with fail;refine HC.mono ?_;rintro e y1 ⟨v,rfl,hown,hb1⟩;obtain⟨pa,ca,rfl,-⟩:=own_rowv hown;obtain⟨i0,hi0,hz0,hz1,hz2⟩:=info_parts info9;have HI0:Hid (Tryz.prog.info? 9=some i0):=hi0
 have HST:Hid (∀(o:Obj) v' w2,w2.ownsRow V.heap.size 9 1 v' ((F i).p+1) (lst (λj=>.string ((F i).A j)) (F i).p++[.string ⟨#[46,46,46]⟩])->(y1.alloc o).grownBy w2 (Value.slice pa (F i).p ca).ownBlock->∃pa2 ca2,v'=.slice pa2 ((F i).p+1) ca2/\Hid (RowV w2 (.slice pa2 ((F i).p+1) ca2) ((F i).p+1) (λj=>.string (prA (F i).A (F i).p j)))/\Hid (Fq w b (.slice (some cd) n cf) t l W g (F i) pn cn pk ck [] w2)):=(λo v' w2 h1 h2=>by
  rw[lst_prA]at h1;obtain⟨pa2,ca2,e,hr⟩:=own_rowv h1
  exact⟨pa2,ca2,e,hr,Fq.call HF1 ((hb1.trans ((bel1 y1 o).mono hb1.size)).grown h2 (by rw[World.size_alloc];have:=hb1.size;omega) (λk hk=>(hown.lt k hk).1))⟩:∀o v' w2,_)
 have hGd:Gd y1:=(Kz.of_below hb1).gd ((un HF1).q.bel.gd (un hg));have HF2:=Fq.call HF1 hb1;have hpN:(F i).p<=200:=(un hp).1;have hszI:V.heap.size<=y1.heap.size:=hb1.size;have hrow:∀o,(y1.alloc o).ownsRow V.heap.size 9 1 (.slice pa (F i).p ca) (F i).p (lst (λj=>.string ((F i).A j)) (F i).p):=λo=>hown.alloc o;clear HC hown hb1 HF1 hi0 c0 c1 c2 c3 c4 c5 c6 c7 c8;obtain⟨c0,c1,c2,c3,c4,c5,c6,c7,c8⟩:=Fq.cs HF2;rw[un ho]at c4;have HC:=impl_spell 49 y1 hGd;rw[spl_49]at HC;go_wp2_with fail;refine HC.mono ?_;rintro e y2 ⟨rfl,hy⟩;subst hy;clear HC hGd;go_wp2_with (at_builtin;go_loud (refine wpList_append_own _ rfl (.tmp 11) (.tmp 13) 41 rfl V.heap.size 9 i0 (.string ⟨#[]⟩) 1 16 Tryz.underlying41 HI0 hz0 hz1 hz2 rfl (by decide) _ _ _ rfl (hrow _) ⟨y2.heap.size,0,none⟩ 1 1 [.string ⟨#[46,46,46]⟩] rfl rfl (qr_cells y2 #[.string ⟨#[46,46,46]⟩] 9 _ rfl) (str_one [⟨#[46,46,46]⟩]) (by unfold maxLen;omega) (by omega) (by simp;omega) ?_);intro v' w2 hown1 hgrow1 _;obtain⟨pa2,ca2,rfl,HR,HF3⟩:=(uh HST) _ _ _ hown1 hgrow1;clear hown1 hgrow1 HST hrow hszI HF2 c0 c1 c2 c3 c4 c5 c6 c7 c8);obtain⟨c0,c1,c2,c3,c4,c5,c6,c7,c8⟩:=Fq.cs HF3;have HC:=im_jn (un HR) (by omega) (λj hj=>prA_le (un hp).2 j);go_wp2_with fail;refine HC.mono ?_;rintro e y3 ⟨s,rfl,hs,hz,hb2⟩
 have HS:Hid (byt s=prm (F i)):=by
  refine hs.trans ?_;rw[prm_1 _ (un ho)]
 have HF4:=Fq.call HF3 hb2;clear HC HR hs hb2 HF3 hpN c0 c1 c2 c3 c4 c5 c6 c7 c8;obtain⟨c0,c1,c2,c3,c4,c5,c6,c7,c8⟩:=Fq.cs HF4;have HC:=λty hT=>Fq.say3 HF4 ⟨#[40]⟩ s ⟨#[41,32]⟩ (by decide) hz (by decide) ty hT;go_wp2_with fail;refine(HC _ (by decide)).mono ?_;rintro e y4 ⟨rfl,HF5⟩;clear HC HF4 c0 c1 c2 c3 c4 c5 c6 c7 c8 hz;obtain⟨ad,rfl,hck,k0⟩:=Fq.kid HF5 (j:=0) (by have:=un hq;omega);rw[add_z]at k0;have j0:(0:Int)<((F i).q:Int):=by have:=un hq;omega
 obtain⟨c0,c1,c2,c3,c4,c5,c6,c7,c8⟩:=Fq.cs HF5;have HC:=Fq.step HF5 (un HB);go_wp2_with fail;refine(HC).mono ?_;rintro e y5 ⟨rfl,HF6⟩;clear HC HF5 c0 c1 c2 c3 c4 c5 c6 c7 c8 k0 j0;go_wp2_with fail;exact⟨rfl,.tuple #[],by simp[results,Tryz.results61],rfl,Fq.done HF6 (by rw[show byt s=_ from HS];rfl)⟩
theorem qp_8(hk:Hid ((F i).a.k=8))(hq:Hid ((F i).q=m+1/\m<=200))(H:Hid (QL w b cd n cf F t (F i).K (m) ts))(HB:Hid (Q1 w b cd n cf t 58 (.int .i64 ((F i).K m)) (Y))):Qv w b cd n cf F t 64 i ([119,104,105,108,101,32]++cmj ts m++[32]++Y):=by
 intro pn cn pk ck rn rk l W h;obtain⟨V,g,hV,hg,HF1⟩:=Fq.start h rn rk;clear h rn rk;unfold fmv;go_enter Tryz.func64,Tryz.ntmps64;go_upto_region 1 with fail
 try rw[hV]
 try rw[hg]
 clear hV hg;obtain⟨c0,c1,c2,c3,c4,c5,c6,c7,c8⟩:=Fq.cs HF1;rw[un hk]at c0;have HC:=λty hT=>Fq.say1 HF1 ⟨#[119,104,105,108,101,32]⟩ (by decide) ty hT;go_wp2_with fail;refine(HC _ (by decide)).mono ?_;rintro e y1 ⟨rfl,HF2⟩;clear HC HF1 c0 c1 c2 c3 c4 c5 c6 c7 c8;obtain⟨pa,ca,hs,HR⟩:=sl_to (un HF2).rk (m:=m) (by have:=un hq;omega) (by have:=un hq;omega) (rfl:(m:Int)=_);replace HR:Hid _:=HR;have hov:IntKind.i64.wrap (((F i).q:Int)-1)=(m:Int):=by have:=un hq;rw[IntKind.wrap_i64];omega
 obtain⟨c0,c1,c2,c3,c4,c5,c6,c7,c8⟩:=Fq.cs HF2;have HC:=Fq.step HF2 ((un H).go (un HR));go_wp2_with fail;refine(HC).mono ?_;rintro e y2 ⟨rfl,HF3⟩;clear HC HF2 c0 c1 c2 c3 c4 c5 c6 c7 c8 hs HR;obtain⟨c0,c1,c2,c3,c4,c5,c6,c7,c8⟩:=Fq.cs HF3;have HC:=λty hT=>Fq.say1 HF3 ⟨#[32]⟩ (by decide) ty hT;go_wp2_with fail;refine(HC _ (by decide)).mono ?_;rintro e y3 ⟨rfl,HF4⟩;clear HC HF3 c0 c1 c2 c3 c4 c5 c6 c7 c8;obtain⟨ad,rfl,hck,k0⟩:=Fq.kid HF4 (j:=m) (by have:=un hq;omega);have j0:(m:Int)<((F i).q:Int):=by have:=un hq;omega
 obtain⟨c0,c1,c2,c3,c4,c5,c6,c7,c8⟩:=Fq.cs HF4;have HC:=Fq.step HF4 (un HB);go_wp2_with fail;refine(HC).mono ?_;rintro e y4 ⟨rfl,HF5⟩;clear HC HF4 c0 c1 c2 c3 c4 c5 c6 c7 c8 k0 j0;go_wp2_with fail;exact⟨rfl,.tuple #[],by simp[results,Tryz.results64],rfl,Fq.done HF5 rfl⟩
theorem qp_9(hk:Hid ((F i).a.k=9))(hp:Hid ((F i).p=1/\((F i).A 0).size<=4000))(hq:Hid ((F i).q=m+1/\m<=200))(H:Hid (QL w b cd n cf F t (F i).K (m) ts))(HB:Hid (Q1 w b cd n cf t 58 (.int .i64 ((F i).K m)) (Y))):Qv w b cd n cf F t 64 i ([102,111,114,32]++byt ((F i).A 0)++[32,61,32]++cmj ts m++[32]++Y):=by
 intro pn cn pk ck rn rk l W h;obtain⟨V,g,hV,hg,HF1⟩:=Fq.start h rn rk;clear h rn rk;unfold fmv;go_enter Tryz.func64,Tryz.ntmps64;go_upto_region 1 with fail
 try rw[hV]
 try rw[hg]
 clear hV hg;obtain⟨an,rfl,hcn,n0⟩:=Fq.nam HF1 (j:=0) (by have:=(un hp).1;omega);rw[add_z]at n0;have m0:(0:Int)<((F i).p:Int):=by have:=(un hp).1;omega
 obtain⟨c0,c1,c2,c3,c4,c5,c6,c7,c8⟩:=Fq.cs HF1;rw[un hk]at c0;have HC:=λty hT=>Fq.say3 HF1 ⟨#[102,111,114,32]⟩ ((F i).A 0) ⟨#[32,61,32]⟩ (by decide) (by have:=(un hp).2;omega) (by decide) ty hT;go_wp2_with fail;refine(HC _ (by decide)).mono ?_;rintro e y1 ⟨rfl,HF2⟩;clear HC HF1 c0 c1 c2 c3 c4 c5 c6 c7 c8 n0 m0;obtain⟨pa,ca,hs,HR⟩:=sl_to (un HF2).rk (m:=m) (by have:=un hq;omega) (by have:=un hq;omega) (rfl:(m:Int)=_);replace HR:Hid _:=HR;have hov:IntKind.i64.wrap (((F i).q:Int)-1)=(m:Int):=by have:=un hq;rw[IntKind.wrap_i64];omega
 obtain⟨c0,c1,c2,c3,c4,c5,c6,c7,c8⟩:=Fq.cs HF2;have HC:=Fq.step HF2 ((un H).go (un HR));go_wp2_with fail;refine(HC).mono ?_;rintro e y2 ⟨rfl,HF3⟩;clear HC HF2 c0 c1 c2 c3 c4 c5 c6 c7 c8 hs HR;obtain⟨c0,c1,c2,c3,c4,c5,c6,c7,c8⟩:=Fq.cs HF3;have HC:=λty hT=>Fq.say1 HF3 ⟨#[32]⟩ (by decide) ty hT;go_wp2_with fail;refine(HC _ (by decide)).mono ?_;rintro e y3 ⟨rfl,HF4⟩;clear HC HF3 c0 c1 c2 c3 c4 c5 c6 c7 c8;obtain⟨ad,rfl,hck,k0⟩:=Fq.kid HF4 (j:=m) (by have:=un hq;omega);have j0:(m:Int)<((F i).q:Int):=by have:=un hq;omega
 obtain⟨c0,c1,c2,c3,c4,c5,c6,c7,c8⟩:=Fq.cs HF4;have HC:=Fq.step HF4 (un HB);go_wp2_with fail;refine(HC).mono ?_;rintro e y4 ⟨rfl,HF5⟩;clear HC HF4 c0 c1 c2 c3 c4 c5 c6 c7 c8 k0 j0;go_wp2_with fail;exact⟨rfl,.tuple #[],by simp[results,Tryz.results64],rfl,Fq.done HF5 rfl⟩
theorem qp_10(hk:Hid ((F i).a.k=10))(hp:Hid ((F i).p<=200/\∀j,j<(F i).p->((F i).A j).size<=4000))(hq:Hid ((F i).q=m+1/\m<=200))(H:Hid (QL w b cd n cf F t (F i).K (m) ts))(HB:Hid (Q1 w b cd n cf t 58 (.int .i64 ((F i).K m)) (Y))):Qv w b cd n cf F t 64 i ([102,111,114,32]++nms (F i)++[32,105,110,32]++cmj ts m++[32]++Y):=by
 intro pn cn pk ck rn rk l W h;obtain⟨V,g,hV,hg,HF1⟩:=Fq.start h rn rk;clear h rn rk;unfold fmv;go_enter Tryz.func64,Tryz.ntmps64;go_upto_region 1 with fail
 try rw[hV]
 try rw[hg]
 clear hV hg;obtain⟨c0,c1,c2,c3,c4,c5,c6,c7,c8⟩:=Fq.cs HF1;rw[un hk]at c0;have HC:=Fq.join HF1 hp;go_wp2_with fail;refine HC.mono ?_;rintro e y1 ⟨s,rfl,HS,hz,HF2⟩;clear HC HF1 c0 c1 c2 c3 c4 c5 c6 c7 c8;obtain⟨c0,c1,c2,c3,c4,c5,c6,c7,c8⟩:=Fq.cs HF2;rw[un hk]at c0;have HC:=λty hT=>Fq.say3 HF2 ⟨#[102,111,114,32]⟩ s ⟨#[32,105,110,32]⟩ (by decide) hz (by decide) ty hT;go_wp2_with fail;refine(HC _ (by decide)).mono ?_;rintro e y2 ⟨rfl,HF3⟩;clear HC HF2 c0 c1 c2 c3 c4 c5 c6 c7 c8 hz;obtain⟨pa,ca,hs,HR⟩:=sl_to (un HF3).rk (m:=m) (by have:=un hq;omega) (by have:=un hq;omega) (rfl:(m:Int)=_);replace HR:Hid _:=HR;have hov:IntKind.i64.wrap (((F i).q:Int)-1)=(m:Int):=by have:=un hq;rw[IntKind.wrap_i64];omega
 obtain⟨c0,c1,c2,c3,c4,c5,c6,c7,c8⟩:=Fq.cs HF3;have HC:=Fq.step HF3 ((un H).go (un HR));go_wp2_with fail;refine(HC).mono ?_;rintro e y3 ⟨rfl,HF4⟩;clear HC HF3 c0 c1 c2 c3 c4 c5 c6 c7 c8 hs HR;obtain⟨c0,c1,c2,c3,c4,c5,c6,c7,c8⟩:=Fq.cs HF4;have HC:=λty hT=>Fq.say1 HF4 ⟨#[32]⟩ (by decide) ty hT;go_wp2_with fail;refine(HC _ (by decide)).mono ?_;rintro e y4 ⟨rfl,HF5⟩;clear HC HF4 c0 c1 c2 c3 c4 c5 c6 c7 c8;obtain⟨ad,rfl,hck,k0⟩:=Fq.kid HF5 (j:=m) (by have:=un hq;omega);have j0:(m:Int)<((F i).q:Int):=by have:=un hq;omega
 obtain⟨c0,c1,c2,c3,c4,c5,c6,c7,c8⟩:=Fq.cs HF5;have HC:=Fq.step HF5 (un HB);go_wp2_with fail;refine(HC).mono ?_;rintro e y5 ⟨rfl,HF6⟩;clear HC HF5 c0 c1 c2 c3 c4 c5 c6 c7 c8 k0 j0;go_wp2_with fail;exact⟨rfl,.tuple #[],by simp[results,Tryz.results64],rfl,Fq.done HF6 (by rw[show byt s=_ from HS];rfl)⟩
theorem qf_32(hk:Hid ((F i).a.k=32))(hq:Hid (1<=(F i).q))(H:Hid (QL w b cd n cf F t (λj=>(F i).K (1+j)) ((F i).q-1) ts)):Qv w b cd n cf F t 111 i ([91]++cmj ts ((F i).q-1)++[93]):=by
 intro pn cn pk ck rn rk l W h;obtain⟨V,g,hV,hg,HF1⟩:=Fq.start h rn rk;clear h rn rk;unfold fmv;go_enter Tryz.func111,Tryz.ntmps111;go_upto_region 1 with fail
 try rw[hV]
 try rw[hg]
 clear hV hg;obtain⟨c0,c1,c2,c3,c4,c5,c6,c7,c8⟩:=Fq.cs HF1;rw[un hk]at c0;obtain⟨pa,ca,hs,HR⟩:=sl_from (un HF1).rk (m:=1) (by have:=un hq;omega) (rfl:(1:Int)=_);replace HR:Hid _:=HR;have HC:=Fq.step HF1 (qx_encl w b _ t ⟨#[91]⟩ ⟨#[93]⟩ (by decide) (by decide) ((un H).go (un HR)));go_wp2_with fail;refine(HC).mono ?_;rintro e y1 ⟨rfl,HF2⟩;clear HC HF1 c0 c1 c2 c3 c4 c5 c6 c7 c8 hs HR;go_wp2_with fail;exact⟨rfl,.tuple #[],by simp[results,Tryz.results111],rfl,Fq.done HF2 rfl⟩
theorem qf_34(hk:Hid ((F i).a.k=34))(hq:Hid (1<=(F i).q))(H:Hid (QL w b cd n cf F t (λj=>(F i).K (1+j)) ((F i).q-1) ts)):Qv w b cd n cf F t 111 i ([40]++cmj ts ((F i).q-1)++[41]):=by
 intro pn cn pk ck rn rk l W h;obtain⟨V,g,hV,hg,HF1⟩:=Fq.start h rn rk;clear h rn rk;unfold fmv;go_enter Tryz.func111,Tryz.ntmps111;go_upto_region 1 with fail
 try rw[hV]
 try rw[hg]
 clear hV hg;obtain⟨c0,c1,c2,c3,c4,c5,c6,c7,c8⟩:=Fq.cs HF1;rw[un hk]at c0;obtain⟨pa,ca,hs,HR⟩:=sl_from (un HF1).rk (m:=1) (by have:=un hq;omega) (rfl:(1:Int)=_);replace HR:Hid _:=HR;have HC:=Fq.step HF1 (qx_encl w b _ t ⟨#[40]⟩ ⟨#[41]⟩ (by decide) (by decide) ((un H).go (un HR)));go_wp2_with fail;refine(HC).mono ?_;rintro e y1 ⟨rfl,HF2⟩;clear HC HF1 c0 c1 c2 c3 c4 c5 c6 c7 c8 hs HR;go_wp2_with fail;exact⟨rfl,.tuple #[],by simp[results,Tryz.results111],rfl,Fq.done HF2 rfl⟩
theorem qf_33(hk:Hid ((F i).a.k=33))(hx:Hid ((F i).a.x.size<=4000)):Qv w b cd n cf F t 111 i (46::byt (F i).a.x):=by
 intro pn cn pk ck rn rk l W h;obtain⟨V,g,hV,hg,HF1⟩:=Fq.start h rn rk;clear h rn rk;unfold fmv;go_enter Tryz.func111,Tryz.ntmps111;go_upto_region 1 with fail
 try rw[hV]
 try rw[hg]
 clear hV hg;obtain⟨c0,c1,c2,c3,c4,c5,c6,c7,c8⟩:=Fq.cs HF1;rw[un hk]at c0;have HC:=λty hT=>Fq.say2 HF1 ⟨#[46]⟩ (F i).a.x (by decide) (by have:=un hx;omega) ty hT;go_wp2_with fail;refine(HC _ (by decide)).mono ?_;rintro e y1 ⟨rfl,HF2⟩;clear HC HF1 c0 c1 c2 c3 c4 c5 c6 c7 c8;go_wp2_with fail;exact⟨rfl,.tuple #[],by simp[results,Tryz.results111],rfl,Fq.done HF2 rfl⟩
theorem qe_32(hk:Hid ((F i).a.k=32))(hq:Hid (1<=(F i).q))(H:Hid (Q1 w b cd n cf t 110 (.int .i64 ((F i).K 0)) (X)))(H2:Hid (Qv w b cd n cf F t 111 i (Y))):Qv w b cd n cf F t 94 i (X++Y):=by
 intro pn cn pk ck rn rk l W h;obtain⟨V,g,hV,hg,HF1⟩:=Fq.start h rn rk;clear h rn rk;unfold fmv;go_enter Tryz.func94,Tryz.ntmps94;go_upto_region 1 with fail
 try rw[hV]
 try rw[hg]
 clear hV hg;obtain⟨c0,c1,c2,c3,c4,c5,c6,c7,c8⟩:=Fq.cs HF1;rw[un hk]at c0;obtain⟨ad,rfl,hck,k0⟩:=Fq.kid HF1 (j:=0) (by have:=un hq;omega);rw[add_z]at k0;have j0:(0:Int)<((F i).q:Int):=by have:=un hq;omega
 have HC:=Fq.step HF1 (un H);go_wp2_with fail;refine(HC).mono ?_;rintro e y1 ⟨rfl,HF2⟩;clear HC HF1 c0 c1 c2 c3 c4 c5 c6 c7 c8 k0 j0;obtain⟨c0,c1,c2,c3,c4,c5,c6,c7,c8⟩:=Fq.cs HF2;rw[un hk]at c0;have HC:=Fq.step HF2 ((un H2) _ _ _ _ (un HF2).rn (un HF2).rk);unfold fmv at HC;rw[un hk]at HC;go_wp2_with fail;refine(HC).mono ?_;rintro e y2 ⟨rfl,HF3⟩;clear HC HF2 c0 c1 c2 c3 c4 c5 c6 c7 c8;go_wp2_with fail;exact⟨rfl,.tuple #[],by simp[results,Tryz.results94],rfl,Fq.done HF3 rfl⟩
theorem qe_33(hk:Hid ((F i).a.k=33))(hq:Hid (1<=(F i).q))(H:Hid (Q1 w b cd n cf t 110 (.int .i64 ((F i).K 0)) (X)))(H2:Hid (Qv w b cd n cf F t 111 i (Y))):Qv w b cd n cf F t 94 i (X++Y):=by
 intro pn cn pk ck rn rk l W h;obtain⟨V,g,hV,hg,HF1⟩:=Fq.start h rn rk;clear h rn rk;unfold fmv;go_enter Tryz.func94,Tryz.ntmps94;go_upto_region 1 with fail
 try rw[hV]
 try rw[hg]
 clear hV hg;obtain⟨c0,c1,c2,c3,c4,c5,c6,c7,c8⟩:=Fq.cs HF1;rw[un hk]at c0;obtain⟨ad,rfl,hck,k0⟩:=Fq.kid HF1 (j:=0) (by have:=un hq;omega);rw[add_z]at k0;have j0:(0:Int)<((F i).q:Int):=by have:=un hq;omega
 have HC:=Fq.step HF1 (un H);go_wp2_with fail;refine(HC).mono ?_;rintro e y1 ⟨rfl,HF2⟩;clear HC HF1 c0 c1 c2 c3 c4 c5 c6 c7 c8 k0 j0;obtain⟨c0,c1,c2,c3,c4,c5,c6,c7,c8⟩:=Fq.cs HF2;rw[un hk]at c0;have HC:=Fq.step HF2 ((un H2) _ _ _ _ (un HF2).rn (un HF2).rk);unfold fmv at HC;rw[un hk]at HC;go_wp2_with fail;refine(HC).mono ?_;rintro e y2 ⟨rfl,HF3⟩;clear HC HF2 c0 c1 c2 c3 c4 c5 c6 c7 c8;go_wp2_with fail;exact⟨rfl,.tuple #[],by simp[results,Tryz.results94],rfl,Fq.done HF3 rfl⟩
theorem qe_34(hk:Hid ((F i).a.k=34))(hq:Hid (1<=(F i).q))(H:Hid (Q1 w b cd n cf t 110 (.int .i64 ((F i).K 0)) (X)))(H2:Hid (Qv w b cd n cf F t 111 i (Y))):Qv w b cd n cf F t 94 i (X++Y):=by
 intro pn cn pk ck rn rk l W h;obtain⟨V,g,hV,hg,HF1⟩:=Fq.start h rn rk;clear h rn rk;unfold fmv;go_enter Tryz.func94,Tryz.ntmps94;go_upto_region 1 with fail
 try rw[hV]
 try rw[hg]
 clear hV hg;obtain⟨c0,c1,c2,c3,c4,c5,c6,c7,c8⟩:=Fq.cs HF1;rw[un hk]at c0;obtain⟨ad,rfl,hck,k0⟩:=Fq.kid HF1 (j:=0) (by have:=un hq;omega);rw[add_z]at k0;have j0:(0:Int)<((F i).q:Int):=by have:=un hq;omega
 have HC:=Fq.step HF1 (un H);go_wp2_with fail;refine(HC).mono ?_;rintro e y1 ⟨rfl,HF2⟩;clear HC HF1 c0 c1 c2 c3 c4 c5 c6 c7 c8 k0 j0;obtain⟨c0,c1,c2,c3,c4,c5,c6,c7,c8⟩:=Fq.cs HF2;rw[un hk]at c0;have HC:=Fq.step HF2 ((un H2) _ _ _ _ (un HF2).rn (un HF2).rk);unfold fmv at HC;rw[un hk]at HC;go_wp2_with fail;refine(HC).mono ?_;rintro e y2 ⟨rfl,HF3⟩;clear HC HF2 c0 c1 c2 c3 c4 c5 c6 c7 c8;go_wp2_with fail;exact⟨rfl,.tuple #[],by simp[results,Tryz.results94],rfl,Fq.done HF3 rfl⟩
theorem qe_35(hk:Hid ((F i).a.k=35))(H:Hid (QL w b cd n cf F t (F i).K ((F i).q) ts)):Qv w b cd n cf F t 94 i ([123]++cmj ts (F i).q++[125]):=by
 intro pn cn pk ck rn rk l W h;obtain⟨V,g,hV,hg,HF1⟩:=Fq.start h rn rk;clear h rn rk;unfold fmv;go_enter Tryz.func94,Tryz.ntmps94;go_upto_region 1 with fail
 try rw[hV]
 try rw[hg]
 clear hV hg;obtain⟨c0,c1,c2,c3,c4,c5,c6,c7,c8⟩:=Fq.cs HF1;rw[un hk]at c0;have HC:=Fq.encl HF1 H ⟨#[123]⟩ ⟨#[125]⟩ (by decide) (by decide);go_wp2_with fail;refine(HC).mono ?_;rintro e y1 ⟨rfl,HF2⟩;clear HC HF1 c0 c1 c2 c3 c4 c5 c6 c7 c8;go_wp2_with fail;exact⟨rfl,.tuple #[],by simp[results,Tryz.results94],rfl,Fq.done HF2 rfl⟩
theorem qe_37(hk:Hid ((F i).a.k=37))(H:Hid (QL w b cd n cf F t (F i).K ((F i).q) ts)):Qv w b cd n cf F t 94 i ([40]++cmj ts (F i).q++[41]):=by
 intro pn cn pk ck rn rk l W h;obtain⟨V,g,hV,hg,HF1⟩:=Fq.start h rn rk;clear h rn rk;unfold fmv;go_enter Tryz.func94,Tryz.ntmps94;go_upto_region 1 with fail
 try rw[hV]
 try rw[hg]
 clear hV hg;obtain⟨c0,c1,c2,c3,c4,c5,c6,c7,c8⟩:=Fq.cs HF1;rw[un hk]at c0;have HC:=Fq.encl HF1 H ⟨#[40]⟩ ⟨#[41]⟩ (by decide) (by decide);go_wp2_with fail;refine(HC).mono ?_;rintro e y1 ⟨rfl,HF2⟩;clear HC HF1 c0 c1 c2 c3 c4 c5 c6 c7 c8;go_wp2_with fail;exact⟨rfl,.tuple #[],by simp[results,Tryz.results94],rfl,Fq.done HF2 rfl⟩
theorem qe_30(hk:Hid ((F i).a.k=30))(H2:Hid (Qv w b cd n cf F t 109 i (X))):Qv w b cd n cf F t 94 i (X):=by
 intro pn cn pk ck rn rk l W h;obtain⟨V,g,hV,hg,HF1⟩:=Fq.start h rn rk;clear h rn rk;unfold fmv;go_enter Tryz.func94,Tryz.ntmps94;go_upto_region 1 with fail
 try rw[hV]
 try rw[hg]
 clear hV hg;obtain⟨c0,c1,c2,c3,c4,c5,c6,c7,c8⟩:=Fq.cs HF1;rw[un hk]at c0;have HC:=Fq.step HF1 ((un H2) _ _ _ _ (un HF1).rn (un HF1).rk);unfold fmv at HC;rw[un hk]at HC;go_wp2_with fail;refine(HC).mono ?_;rintro e y1 ⟨rfl,HF2⟩;clear HC HF1 c0 c1 c2 c3 c4 c5 c6 c7 c8;go_wp2_with fail;exact⟨rfl,.tuple #[],by simp[results,Tryz.results94],rfl,Fq.done HF2 rfl⟩
theorem qe_36(hk:Hid ((F i).a.k=36))(H2:Hid (Qv w b cd n cf F t 61 i (X))):Qv w b cd n cf F t 94 i ([102,110]++X):=by
 intro pn cn pk ck rn rk l W h;obtain⟨V,g,hV,hg,HF1⟩:=Fq.start h rn rk;clear h rn rk;unfold fmv;go_enter Tryz.func94,Tryz.ntmps94;go_upto_region 1 with fail
 try rw[hV]
 try rw[hg]
 clear hV hg;obtain⟨c0,c1,c2,c3,c4,c5,c6,c7,c8⟩:=Fq.cs HF1;rw[un hk]at c0;have HC:=λty hT=>Fq.say1 HF1 ⟨#[102,110]⟩ (by decide) ty hT;go_wp2_with fail;refine(HC _ (by decide)).mono ?_;rintro e y1 ⟨rfl,HF2⟩;clear HC HF1 c0 c1 c2 c3 c4 c5 c6 c7 c8;obtain⟨c0,c1,c2,c3,c4,c5,c6,c7,c8⟩:=Fq.cs HF2;rw[un hk]at c0;have HC:=Fq.step HF2 ((un H2) _ _ _ _ (un HF2).rn (un HF2).rk);unfold fmv at HC;rw[un hk]at HC;go_wp2_with fail;refine(HC).mono ?_;rintro e y2 ⟨rfl,HF3⟩;clear HC HF2 c0 c1 c2 c3 c4 c5 c6 c7 c8;go_wp2_with fail;exact⟨rfl,.tuple #[],by simp[results,Tryz.results94],rfl,Fq.done HF3 rfl⟩
theorem qe_40(hk:Hid ((F i).a.k=40))(H:Hid (QL w b cd n cf F t (F i).K ((F i).q) ts)):Qv w b cd n cf F t 94 i (cmj ts (F i).q):=by
 intro pn cn pk ck rn rk l W h;obtain⟨V,g,hV,hg,HF1⟩:=Fq.start h rn rk;clear h rn rk;unfold fmv;go_enter Tryz.func94,Tryz.ntmps94;go_upto_region 1 with fail
 try rw[hV]
 try rw[hg]
 clear hV hg;obtain⟨c0,c1,c2,c3,c4,c5,c6,c7,c8⟩:=Fq.cs HF1;rw[un hk]at c0;have HC:=Fq.list HF1 H;go_wp2_with fail;refine(HC).mono ?_;rintro e y1 ⟨rfl,HF2⟩;clear HC HF1 c0 c1 c2 c3 c4 c5 c6 c7 c8;go_wp2_with fail;exact⟨rfl,.tuple #[],by simp[results,Tryz.results94],rfl,Fq.done HF2 rfl⟩
theorem qe_41(hk:Hid ((F i).a.k=41)){us:Nat->List UInt8}(hq:Hid ((F i).q=2))(H:Hid (QL w b cd n cf F t (F i).K (1) ts))(H2:Hid (QL w b cd n cf F t (λj=>(F i).K (1+j)) ((F i).q-1) us)):Qv w b cd n cf F t 94 i ([91]++cmj ts 1++[93,32,61,32]++cmj us ((F i).q-1)):=by
 intro pn cn pk ck rn rk l W h;obtain⟨V,g,hV,hg,HF1⟩:=Fq.start h rn rk;clear h rn rk;unfold fmv;go_enter Tryz.func94,Tryz.ntmps94;go_upto_region 1 with fail
 try rw[hV]
 try rw[hg]
 clear hV hg;obtain⟨c0,c1,c2,c3,c4,c5,c6,c7,c8⟩:=Fq.cs HF1;rw[un hk]at c0;obtain⟨pa,ca,hs,HR⟩:=sl_to (un HF1).rk (m:=1) (by have:=un hq;omega) (by have:=un hq;omega) (rfl:(1:Int)=_);replace HR:Hid _:=HR;have HC:=Fq.step HF1 (qx_encl w b _ t ⟨#[91]⟩ ⟨#[93,32,61,32]⟩ (by decide) (by decide) ((un H).go (un HR)));go_wp2_with fail;refine(HC).mono ?_;rintro e y1 ⟨rfl,HF2⟩;clear HC HF1 c0 c1 c2 c3 c4 c5 c6 c7 c8 hs HR;obtain⟨c0,c1,c2,c3,c4,c5,c6,c7,c8⟩:=Fq.cs HF2;rw[un hk]at c0;obtain⟨pa2,ca2,hs,HR⟩:=sl_from (un HF2).rk (m:=1) (by have:=un hq;omega) (rfl:(1:Int)=_);replace HR:Hid _:=HR;have HC:=Fq.step HF2 ((un H2).go (un HR));go_wp2_with fail;refine(HC).mono ?_;rintro e y2 ⟨rfl,HF3⟩;clear HC HF2 c0 c1 c2 c3 c4 c5 c6 c7 c8 hs HR;go_wp2_with fail;exact⟨rfl,.tuple #[],by simp[results,Tryz.results94],rfl,Fq.done HF3 rfl⟩
theorem qe_42(hk:Hid ((F i).a.k=42))(hx:Hid ((F i).a.x.size<=4000))(H:Hid (QL w b cd n cf F t (F i).K ((F i).q) ts)):Qv w b cd n cf F t 94 i ((46::byt (F i).a.x)++bhx ⟨#[32,61,32]⟩ ts (F i).q):=by
 intro pn cn pk ck rn rk l W h;obtain⟨V,g,hV,hg,HF1⟩:=Fq.start h rn rk;clear h rn rk;unfold fmv;go_enter Tryz.func94,Tryz.ntmps94;go_upto_region 1 with fail
 try rw[hV]
 try rw[hg]
 clear hV hg;obtain⟨c0,c1,c2,c3,c4,c5,c6,c7,c8⟩:=Fq.cs HF1;rw[un hk]at c0;have HC:=λty hT=>Fq.say2 HF1 ⟨#[46]⟩ (F i).a.x (by decide) (by have:=un hx;omega) ty hT;go_wp2_with fail;refine(HC _ (by decide)).mono ?_;rintro e y1 ⟨rfl,HF2⟩;clear HC HF1 c0 c1 c2 c3 c4 c5 c6 c7 c8;obtain⟨c0,c1,c2,c3,c4,c5,c6,c7,c8⟩:=Fq.cs HF2;rw[un hk]at c0;have HC:=Fq.beh HF2 H ⟨#[32,61,32]⟩ (by decide);go_wp2_with fail;refine(HC).mono ?_;rintro e y2 ⟨rfl,HF3⟩;clear HC HF2 c0 c1 c2 c3 c4 c5 c6 c7 c8;go_wp2_with fail;exact⟨rfl,.tuple #[],by simp[results,Tryz.results94],rfl,Fq.done HF3 rfl⟩
theorem qe_pln(hk:Hid (20<=(F i).a.k/\(F i).a.k<=27)){R:ByteArray}(hR:R.size<=1000000000)(H:Hid (∀vn vk W,Kz w W->Calls Tryz.prog 113 #[fmv (F i).a vn vk] W λe w2=>e=.returned (.string R)/\Rd.Kept W w2)):Qv w b cd n cf F t 94 i (byt R):=by
 intro pn cn pk ck rn rk l W h;obtain⟨V,g,hV,hg,HF1⟩:=Fq.start h rn rk;clear h rn rk;unfold fmv;go_enter Tryz.func94,Tryz.ntmps94;go_upto_region 1 with fail
 try rw[hV]
 try rw[hg]
 clear hV hg;obtain⟨c0,c1,c2,c3,c4,c5,c6,c7,c8⟩:=Fq.cs HF1;have hkk:=un hk;have n28:((F i).a.k==28)=false:=by rw[beq_eq_false_iff_ne];omega
 have n29:((F i).a.k==29)=false:=by rw[beq_eq_false_iff_ne];omega
 have n31:((F i).a.k==31)=false:=by rw[beq_eq_false_iff_ne];omega
 have n30:((F i).a.k==30)=false:=by rw[beq_eq_false_iff_ne];omega
 have n32:((F i).a.k==32)=false:=by rw[beq_eq_false_iff_ne];omega
 have n33:((F i).a.k==33)=false:=by rw[beq_eq_false_iff_ne];omega
 have n34:((F i).a.k==34)=false:=by rw[beq_eq_false_iff_ne];omega
 have n35:((F i).a.k==35)=false:=by rw[beq_eq_false_iff_ne];omega
 have n36:((F i).a.k==36)=false:=by rw[beq_eq_false_iff_ne];omega
 have n37:((F i).a.k==37)=false:=by rw[beq_eq_false_iff_ne];omega
 have n40:((F i).a.k==40)=false:=by rw[beq_eq_false_iff_ne];omega
 have n41:((F i).a.k==41)=false:=by rw[beq_eq_false_iff_ne];omega
 have n42:((F i).a.k==42)=false:=by rw[beq_eq_false_iff_ne];omega
 clear hkk;have HC:=(un H) (.slice pn (F i).p cn) (.slice pk (F i).q ck) _ (un HF1).q.bel;unfold fmv at HC;have HRI:Hid (R.size<=1000000000):=hR;clear hR;go_wp2_with fail;refine HC.mono ?_;rintro e y1 ⟨rfl,hk1⟩;have HF2:=Fq.callz HF1 (.of_kept hk1);clear HC hk1 HF1 c0 c1 c2 c3 c4 c5 c6 c7 c8 n28 n29 n31 n30 n32 n33 n34 n35 n36 n37 n40 n41 n42;have HC:=λty hT=>Fq.say1 HF2 R (un HRI) ty hT;go_wp2_with fail;refine(HC _ (by decide)).mono ?_;rintro e y2 ⟨rfl,HF3⟩;clear HC HF2;go_wp2_with fail;exact⟨rfl,.tuple #[],by simp[results,Tryz.results94],rfl,Fq.done HF3 rfl⟩
theorem Fq.third{V:World}(h:Hid (Fq w b fs t l W g G pn cn pk ck T wr)){o:Obj}(hV:(wr.alloc o).drew=V):Hid (Fq w b fs t l W g G pn cn pk ck T V):=by
 rw[<-hV];exact Fq.call (Fq.call h (bel1 wr o)) (be_drew _)
theorem Cel9.bothz{a:Addr}{f:Fv}{vn vk:Value}(h:Cel9 w a f vn vk)(hb:Kz w W):Cel9 W a f vn vk/\∀o,Cel9 (W.alloc o) a f vn vk:=⟨h.kz hb,λo=>(h.kz hb).below (bel1 W o)⟩
theorem Fq.stepo{f:Nat}{U:List UInt8}{args:Array Value}(h:Hid (Fq w b fs t l W g G pn cn pk ck T wr))(H:Cq w b fs t f args U)(hB:wr.heap[g2]? =some (.cells c t2 (0,0)))(hg:g2≠b)(ht:t2≠5):Calls Tryz.prog f args wr λe w'=>e=.returned (.tuple #[])/\Hid (Fq w b fs t l W g G pn cn pk ck (T++U) w')/\w'.heap[g2]? =some (.cells c t2 (0,0)):=by
 refine(H _ wr (un h).q).mono ?_;rintro e w' ⟨rfl,h2,o2⟩;exact⟨rfl,(un h).keep h2 o2,o2 _ _ hB (by simpa using hg) (λc fz e=>by injection e with _ e2;exact ht e2)⟩
theorem Fq.say1o(h:Hid (Fq w b fs t l W g G pn cn pk ck T wr))(x:ByteArray)(hx:x.size<=1000000000)(ty:Nat)(hT:ty≠5)(hB:wr.heap[g2]? =some (.cells c t2 (0,0)))(hg:g2≠b)(ht:t2≠5):Calls Tryz.prog 30 #[.pointer (some ⟨b,0,none⟩),.slice (some ⟨wr.heap.size,0,none⟩) 1 1] (wr.alloc (.cells #[.string x] ty)) λe w'=>e=.returned (.tuple #[])/\Hid (Fq w b fs t l W g G pn cn pk ck (T++fl [x]) w')/\w'.heap[g2]? =some (.cells c t2 (0,0)):=by
 refine(pt_say w b fs t [x] (by simpa using hx) (by simp) (un h).q 1 ty hT).mono ?_;rintro e w' ⟨rfl,h2,o2⟩;exact⟨rfl,(un h).keep h2 o2,o2 _ _ hB (by simpa using hg) (λc fz e=>by injection e with _ e2;exact ht e2)⟩
theorem Fq.say3o(h:Hid (Fq w b fs t l W g G pn cn pk ck T wr))(x y z:ByteArray)(hx:x.size<=1000000000)(hy:y.size<=1000000000)(hz:z.size<=1000000000)(ty:Nat)(hT:ty≠5)(hB:wr.heap[g2]? =some (.cells c t2 (0,0)))(hg:g2≠b)(ht:t2≠5):Calls Tryz.prog 30 #[.pointer (some ⟨b,0,none⟩),.slice (some ⟨wr.heap.size,0,none⟩) 3 3] (wr.alloc (.cells #[.string x,.string y,.string z] ty)) λe w'=>e=.returned (.tuple #[])/\Hid (Fq w b fs t l W g G pn cn pk ck (T++fl [x,y,z]) w')/\w'.heap[g2]? =some (.cells c t2 (0,0)):=by
 refine(pt_say w b fs t [x,y,z] (by simp[hx,hy,hz]) (by simp) (un h).q 3 ty hT).mono ?_;rintro e w' ⟨rfl,h2,o2⟩;exact⟨rfl,(un h).keep h2 o2,o2 _ _ hB (by simpa using hg) (λc fz e=>by injection e with _ e2;exact ht e2)⟩
theorem bd_sg:∀m:Fin 20,(bd m.val 1=28\/bd m.val 1=29\/bd m.val 1=31)->(bd m.val 4=lpf ⟨bd m.val 1,0,0,0,bd m.val 2,0,⟨#[]⟩⟩/\bd m.val 5=rpf ⟨bd m.val 1,0,0,0,bd m.val 2,0,⟨#[]⟩⟩/\bd m.val 4<=11/\bd m.val 5<=11)/\(spl (bd m.val 0)).size<=100/\sgf ⟨bd m.val 1,0,0,0,bd m.val 2,0,⟨#[]⟩⟩=[32]++(byt (spl (bd m.val 0))++[32]):=by decide+kernel
theorem Bd.sg{a:Fv}{r:Array Value}(h:Bd a r)(hk:a.k=28\/a.k=29\/a.k=31)(h1:a.k=28\/a.k=29->a.o=0)(h2:a.k=31->1<=a.o/\a.o<=18):∃x0 x1 x2 x3:Int,r=#[.int .i64 x0,.int .i64 x1,.int .i64 x2,.int .i64 x3,.int .i64 (lpf a),.int .i64 (rpf a)]/\lpf a<=11/\rpf a<=11/\(spl x0).size<=100/\sgf a=[32]++(byt (spl x0)++[32]):=by
 rcases h with⟨m,hm,e1,e2,rfl⟩|⟨hno,rfl⟩
 ·obtain⟨⟨q1,q2,q3,q4⟩,q5,q6⟩:=bd_sg ⟨m,hm⟩ (by rw[show bd (⟨m,hm⟩:Fin 20).val 1=a.k from e1];exact hk);have e3:∀x,lpf ⟨a.k,0,0,0,a.o,0,x⟩=lpf a:=λx=>rfl;have e4:∀x,rpf ⟨a.k,0,0,0,a.o,0,x⟩=rpf a:=λx=>rfl;have e5:∀x,sgf ⟨a.k,0,0,0,a.o,0,x⟩=sgf a:=λx=>rfl;simp only[e1,e2,e3,e4,e5]at q1 q2 q6;rw[q1]at q3;rw[q2]at q4;refine⟨bd m 0,bd m 1,bd m 2,bd m 3,?_,q3,q4,q5,q6⟩;unfold bdv;rw[q1,q2]
 ·exfalso;rcases hk with e|e|e
  ·exact hno 1 (by decide) ⟨by rw[e];rfl,by rw[h1 (.inl e)];rfl⟩
  ·exact hno 0 (by decide) ⟨by rw[e];rfl,by rw[h1 (.inr e)];rfl⟩
  ·obtain⟨o1,o2⟩:=h2 e;obtain⟨j,hj,e1,e2⟩:=bd_31 ⟨(a.o-1).toNat,by omega⟩;refine hno j hj ⟨by rw[e1,e],?_⟩;rw[e2];show(((a.o-1).toNat:Nat):Int)+1=a.o;omega
