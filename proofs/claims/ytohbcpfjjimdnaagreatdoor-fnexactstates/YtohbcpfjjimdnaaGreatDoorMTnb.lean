import Derived.Test.YtohbcpfjjimdnaaGreatDoorMTmv
set_option maxHeartbeats 16000000
namespace Go.Proofs.YtohbcpfjjimdnaaGreatDoor.Fo
open Go.ChangeShapes Go.WideShapes Go.ChangeAt Go.RowKit
set_option linter.unusedVariables false
set_option maxRecDepth 100000
variable {av:Nat->Prop}{d:Pd}{pn:Option Addr}{cn i:Nat}{vu vc vd vt0 vg0 vt1 vg1:Value}{s:Sv}{T:List Int}{G:List Gv}{o oa ob oc od:Int}
theorem fo_31(w:World)(hrow:RowI 0 w (.slice pn d.n cn) d.n d.N)(hi:i<d.n)(hn:d.n<=1048576)(hx:IsSl vu/\IsSl vc/\IsSl vd)(ha:d.N i=⟨o,oa,ob,oc,od⟩)(r0:Rz av w vt0 s.1)(r1:Rg av w vg0 s.2)(r2:Rz av w vt1 T)(r3:Rg av w vg1 G)(hav:∀k,w.heap.size<=k->av k)(hlen:s.1.length<=250/\T.length=s.1.length)(h:o=31)(hj:0<=oa)(hc:0<=ob/\ob+2<=(s.1.length:Int)):
  Calls Tryz.prog 38 #[.agg #[.string d.x,.int .i64 d.l,.int .i64 d.m,.bool d.r,.int .i64 d.g,vu,vc,.slice pn d.n cn,vd],.int .i64 i,.agg #[.bool true,vt0,vg0],vt1,vg1] w (FoA av (fol (d.N i) i s T G) w):=by
 subst h;obtain⟨j,hjj⟩:∃j:Nat,oa=(j:Int):=⟨oa.toNat,by omega⟩
 obtain⟨kb,hkb⟩:∃k:Nat,ob=(k:Int):=⟨ob.toNat,by omega⟩
 rw[hjj,hkb]at ha;rw[hkb]at hc;obtain⟨⟨a1,b1,c1,rfl⟩,⟨a2,b2,c2,rfl⟩,⟨a3,b3,c3,rfl⟩⟩:=hx;obtain⟨pn',cn',ee,hr2⟩:=hrow;obtain⟨rfl,rfl⟩:pn=pn'/\cn=cn':=by simpa using ee
 obtain⟨p,rfl,hcp,-,hrb⟩:=hr2 (by omega);obtain⟨pt0,ct0,e0,-⟩:=id r0;obtain⟨pg0,cg0,e1,-⟩:=id r1;obtain⟨pt1,ct1,e2,-⟩:=id r2;obtain⟨pg1,cg1,e3,-⟩:=id r3;subst e0 e1 e2 e3;have hci:=hrb i hi;rw[ha]at hci;obtain⟨q0,q1,q2,q3,q4⟩:=CelI.keep (c:=0) hci zq (kb_alloc2 0 w (.cells #[.string d.x,.int .i64 d.l,.int .i64 d.m,.bool d.r,.int .i64 d.g,.slice a1 b1 c1,.slice a2 b2 c2,.slice (some p) d.n cn,.slice a3 b3 c3] 52) (.cells #[.bool true,.slice pt0 s.1.length ct0,.slice pg0 s.2.length cg0] 58));have iI:(i:Int)<(d.n:Int):=by omega
 have nI:(d.n:Int)<=1048576:=by omega
 obtain⟨w3,hw3⟩:∃w3,w3=((w.alloc (.cells #[.string d.x,.int .i64 d.l,.int .i64 d.m,.bool d.r,.int .i64 d.g,.slice a1 b1 c1,.slice a2 b2 c2,.slice (some p) d.n cn,.slice a3 b3 c3] 52)).alloc (.cells #[.bool true,.slice pt0 s.1.length ct0,.slice pg0 s.2.length cg0] 58)).alloc (.cells #[.int .i64 31,.int .i64 j,.int .i64 kb,.int .i64 oc,.int .i64 od] 79):=⟨_,rfl⟩
 obtain⟨t0,t1,t2,ts,k3⟩:=three_new w _ _ _ _ _ _ w3 hw3;obtain⟨w4,hw4⟩:∃w4,w4=w3.alloc (.cells #[.bool true,.slice pt1 T.length ct1,.slice pg1 G.length cg1] 58):=⟨_,rfl⟩
 have k34:Kb 0 w3 w4:=by rw[hw4];exact kb_alloc _ _ _
 have k4:=k3.trans k34;have hs4:w4.heap.size=w.heap.size+4:=by rw[hw4,World.size_alloc,ts]
 have t3:w4.heap[w.heap.size+3]? =some (.cells #[.bool true,.slice pt1 T.length ct1,.slice pg1 G.length cg1] 58 (0,0)):=by rw[hw4,<-ts];exact alloc_new _ _ _
 have t2':=(k34.block _ zq (by omega)).trans t2;have t1':=(k34.block _ zq (by omega)).trans t1;have HBL:Hid (w4.heap[w.heap.size+1]? =some (.cells #[.bool true,.slice pt0 s.1.length ct0,.slice pg0 s.2.length cg0] 58 (0,0))/\w4.heap[w.heap.size+1+1]? =some (.cells #[.int .i64 31,.int .i64 j,.int .i64 kb,.int .i64 oc,.int .i64 od] 79 (0,0))/\w4.heap[w.heap.size+3]? =some (.cells #[.bool true,.slice pt1 T.length ct1,.slice pg1 G.length cg1] 58 (0,0))/\w4.heap.size=w.heap.size+4/\Kb 0 w w4):=(⟨t1',t2',t3,hs4,k4⟩:_/\_)
 have d0:w4.cell? ⟨w.heap.size+1+1,0,none⟩=some (.int .i64 31):=cell_of t2' rfl;have d1:w4.cell? ⟨w.heap.size+1+1,1,none⟩=some (.int .i64 j):=cell_of t2' rfl;have d2:w4.cell? ⟨w.heap.size+1+1,2,none⟩=some (.int .i64 kb):=cell_of t2' rfl;have d3:w4.cell? ⟨w.heap.size+1+1,3,none⟩=some (.int .i64 oc):=cell_of t2' rfl;have f0:w4.cell? ⟨w3.heap.size,0,none⟩=some (.bool true):=by rw[ts];exact cell_of t3 rfl
 have f1:w4.cell? ⟨w3.heap.size,1,none⟩=some (.slice pt1 T.length ct1):=by rw[ts];exact cell_of t3 rfl
 have f2:w4.cell? ⟨w3.heap.size,2,none⟩=some (.slice pg1 G.length cg1):=by rw[ts];exact cell_of t3 rfl
 obtain⟨s3,hs3⟩:∃s3,s3=w3.heap.size:=⟨_,rfl⟩
 rw[<-hs3]at f0 f1 f2;have HS3:Hid (s3=w3.heap.size/\w3.heap.size=w.heap.size+3):=(⟨hs3,ts⟩:_/\_)
 have HW3:Hid (w3=_):=hw3;have HW4:Hid (w4=_):=hw4;have h4w:w.heap.size<=w4.heap.size:=by omega
 have E1:FoE (λk=>av k/\k<w.heap.size) w4 (i+1,.slice pt1 T.length ct1,.slice pg1 G.length cg1) (i+1,(T,G)):=⟨rfl,(r2.imp (λb hb h=>⟨h,hb⟩)).kb k4,(r3.imp (λb hb h=>⟨h,hb⟩)).kb k4⟩
 have HKB:Hid (kb+2<=s.1.length):=(by omega:kb+2<=s.1.length)
 have HAV:Hid ((∀k,w.heap.size<=k->av k)/\d.N i=⟨31,(j:Int),(kb:Int),oc,od⟩/\s.1.length<=250/\T.length=s.1.length):=(⟨hav,ha,hlen⟩:_/\_)
 have HRR:Hid (Rz av w (.slice pt0 s.1.length ct0) s.1/\Rg av w (.slice pg0 s.2.length cg0) s.2/\Rz av w (.slice pt1 T.length ct1) T/\Rg av w (.slice pg1 G.length cg1) G):=(⟨r0,r1,r2,r3⟩:_/\_)
 have HSTP:Hid (∀(E:Obj) (g c':Nat) (w7:World),w7.ownsRow w.heap.size 89 4 (.slice (some ⟨g,0,none⟩) (0+1) c') (0+1) ([]++[.int .i64 ((i:Int)+1),.bool true,.slice pt1 T.length ct1,.slice pg1 G.length cg1])->(w4.alloc E).grownBy w7 (Value.slice none 0 0).ownBlock->Kb 0 w4 w7/\w7.ownsRow w.heap.size 89 4 (.slice (some ⟨g,0,none⟩) 1 c') 1 (nx4 (i+1,.slice pt1 T.length ct1,.slice pg1 G.length cg1))/\FoE (λk=>av k/\k<w.heap.size) w7 (i+1,.slice pt1 T.length ct1,.slice pg1 G.length cg1) (i+1,(T,G))/\FoR av w.heap.size w7 (.slice (some ⟨g,0,none⟩) 1 c') [(i+1,(T,G))]):=(λE g c' w7 h1 h2=>by
  have h1':w7.ownsRow w.heap.size 89 4 (.slice (some ⟨g,0,none⟩) 1 c') 1 (nx4 (i+1,.slice pt1 T.length ct1,.slice pg1 G.length cg1)):=by simpa [nx4]using h1
  have k7:Kb 0 w4 w7:=(kb_alloc 0 w4 E).gr h2 (λg e=>by cases e)
  exact⟨k7,h1',⟨rfl,E1.2.1.kb k7,E1.2.2.kb k7⟩,for_one (E1.imp (λb _ h=>h.1)) h1' h2⟩:∀(E:Obj),_)
 have hqc:=qr_cells w4 #[.int .i64 ((i:Int)+1),.bool true,.slice pt1 T.length ct1,.slice pg1 G.length cg1] 89 [.int .i64 ((i:Int)+1),.bool true,.slice pt1 T.length ct1,.slice pg1 G.length cg1] rfl;have h1c:∀u ∈ ([.int .i64 ((i:Int)+1),.bool true,.slice pt1 T.length ct1,.slice pg1 G.length cg1]:List Value),u.oneCell'=true:=by intro u hu;simp at hu;rcases hu with rfl|rfl|rfl|rfl<;>rfl
 clear E1;obtain⟨i0,hi0,hz0,hzs,hzb⟩:=info_parts infoN;have HI0:Hid (Tryz.prog.info? 89=some i0):=hi0;clear hi0;clear hw3 hw4 t0 t1 t2 ts k3 k34 hs4 t3 t2' t1' hr2 hrb hci hcp ee hi hn hs3 k4 r0 r1 r2 r3 ha hav hlen;go_enter Tryz.func38,Tryz.ntmps38;go_upto_region 3 with fail;rw[<-(uh HW3)];go_upto_region 4 with fail;rw[<-(show s3=w3.heap.size from(uh HS3).1),<-(uh HW4)];clear HW3 HW4 q0 q1 q2 q3 q4;go_upto_region 6 with(at_builtin;refine wpList_append_lies _ rfl (.tmp 38) (.tmp 43) 86 rfl w.heap.size 89 i0 (.agg #[.int .i64 0,.bool false,.slice none 0 0,.slice none 0 0]) 4 64 Tryz.underlying86 HI0 hz0 hzs hzb rfl (by decide) _ _ _ rfl (World.ownsRow_nil _ _ _ _) ⟨w4.heap.size,0,none⟩ 1 1 [.int .i64 ((i:Int)+1),.bool true,.slice pt1 T.length ct1,.slice pg1 G.length cg1] rfl rfl hqc h1c (by decide) (by unfold maxLen;omega) (by omega) (by rw[World.size_alloc];omega) (w4.heap.size+1) (by simp) ?_;intro g cap' w7 hown3 hgr3 hl3 _;obtain⟨k7,z1,z2,z3⟩:=(uh HSTP) _ _ _ _ hown3 hgr3;clear hown3 hgr3 hl3 hqc h1c HSTP);replace d0:=k7.cell d0;replace d1:=k7.cell d1;replace d2:=k7.cell d2;replace d3:=k7.cell d3;replace f0:=k7.cell f0;replace f1:=k7.cell f1;replace f2:=k7.cell f2;have h7w:w.heap.size<=w7.heap.size:=Nat.le_trans h4w k7.size;have HK7:Hid (Kb 0 w w7/\Kb 0 w4 w7):=(⟨(uh HBL).2.2.2.2.trans k7,k7⟩:_/\_)
 have HZ1:Hid (w7.ownsRow w.heap.size 89 4 (.slice (some ⟨g,0,none⟩) 1 cap') 1 (nx4 (i+1,.slice pt1 T.length ct1,.slice pg1 G.length cg1))/\FoE (λk=>av k/\k<w.heap.size) w7 (i+1,.slice pt1 T.length ct1,.slice pg1 G.length cg1) (i+1,(T,G))/\FoR av w.heap.size w7 (.slice (some ⟨g,0,none⟩) 1 cap') [(i+1,(T,G))]):=(⟨z1,z2,z3⟩:_/\_)
 clear k7 z1 z2 z3;have hrr:=(uh HRR)
 have hlen:=(uh HAV).2.2;have hk7:=(uh HK7)
 have hbl:=(uh HBL)
 have HCP:=sp_copy w7 (hrr.1.kb hk7.1) (by omega);have c1':w7.cell? ⟨w.heap.size+1,1,none⟩=some (.slice pt0 s.1.length ct0):=hk7.2.cell (cell_of hbl.1 rfl);have HY:Hid (∀w8,Kb 0 w7 w8->w8.cell? ⟨w.heap.size+1,2,none⟩=some (.slice pg0 s.2.length cg0)/\w8.cell? ⟨w.heap.size+1+1,1,none⟩=some (.int .i64 j)/\w8.cell? ⟨w.heap.size+1+1,2,none⟩=some (.int .i64 kb)):=(λw8 k8=>⟨(hk7.2.trans k8).cell (cell_of hbl.1 rfl),k8.cell d1,k8.cell d2⟩:∀w8,_)
 have sI:(s.1.length:Int)<=250:=by omega
 have HKT:Hid (T.length=s.1.length):=hlen.2;clear hrr hlen hk7 hbl h4w;go_upto_region 21 with(go_at_call 33;refine HCP.mono ?_;rintro e w8 ⟨v5,rfl,hO5,k8⟩;obtain⟨c2',c3',c4'⟩:=(uh HY) w8 k8;have HO5:Hid (OwI w7.heap.size w8 v5 s.1/\Kb 0 w7 w8):=(⟨hO5,k8⟩:_/\_);clear hO5 k8 HCP c1');have hO5:=(uh HO5)
 have hkb:=(uh HKB)
 obtain⟨b5,q5,cap5,y5,hv5,hb5,hcap5,hq5,hob5,-,-,-⟩:=own_wr hO5.1 (k:=kb) (by omega);have HQ5:Hid (b5=⟨q5,0,none⟩/\w7.heap.size<=q5/\v5.ownBlock=some q5/\v5=.slice (some b5) s.1.length cap5):=(⟨hb5,hq5,hob5,hv5⟩:_/\_)
 have cI5:(s.1.length:Int)<=(cap5:Int):=by omega
 have HZ0:Hid (∃L,ZF s.1 kb kb L/\OwI w7.heap.size w8 v5 L/\Kb 0 w7 w8):=⟨s.1,ZF.start _ _,hO5.1,hO5.2⟩
 subst hv5;clear hO5 hkb hb5 hcap5 hq5 hob5 d0 d1 d2 d3 f0 f1 f2 HO5
 go_loopw [16] (λs16 wz=>∃r:Nat,s16=.int .i64 r/\kb<=r/\r<=s.1.length/\Hid (∃L,ZF s.1 kb r L/\OwI w7.heap.size wz (.slice (some b5) s.1.length cap5) L/\Kb 0 w7 wz)) (λs16 _=>s.1.length-(intOf s16).toNat)
 case atStart=>exact⟨kb,rfl,Nat.le_refl _,by have:=(uh HKB);omega,HZ0⟩
 case round=>
  obtain⟨r,rfl,hr1,hr2,HT⟩:=hrel
  rename World=>wz
  clear HZ0 c2' c3' c4';obtain⟨L,hz,hO,kz⟩:=(uh HT)
  clear HT;obtain⟨hb5,hq5,hob5,-⟩:=(uh HQ5)
  rcases Nat.lt_or_ge r s.1.length with h|h
  ·have rI:(r:Int)<(s.1.length:Int):=by omega
   obtain⟨b',q',cq',y',e1,e2,e3,e4,e5,cy,fz,hset⟩:=own_wr hO (k:=r) (by rw[hz.1];exact h);have e6:=Value.slice.inj e1;obtain rfl:b5=b':=by simpa using e6.1
   obtain rfl:q5=q':=by have:=hob5.symm.trans e5;simpa using this
   have fzr:=fz r;have HN:Hid (∃L,ZF s.1 kb (r+1) L/\OwI w7.heap.size (wz.setCell (b5.add r) (.int .i64 0)) (.slice (some b5) s.1.length cap5) L/\Kb 0 w7 (wz.setCell (b5.add r) (.int .i64 0))):=⟨_,hz.step hr1 h,(hset wz (Kb.refl _ _) 0).1,Kx.kb kz (hset wz (Kb.refl _ _) 0).2 hq5⟩
   clear hz hO kz hb5 hq5 hob5 e1 e2 e3 e4 e5 e6 hset fz;go_wp2_with fail;go_roundw
   case rel=>exact⟨r+1,by go_num,by omega,by omega,HN⟩
   case measure=>simp[intOf];omega
  ·have rI:¬(r:Int)<(s.1.length:Int):=by omega
   have hkb:=(uh HKB)
   have er:r=s.1.length:=by omega
   rw[er]at hz;obtain⟨c2',c3',c4'⟩:=(uh HY) wz kz;obtain⟨b',q',cq',y',e1,e2,e3,e4,e5,cy,fz,hset⟩:=own_wr hO (k:=kb) (by rw[hz.1];omega);have e6:=Value.slice.inj e1;obtain rfl:b5=b':=by simpa using e6.1
   obtain rfl:q5=q':=by have:=hob5.symm.trans e5;simpa using this
   have fzb:=fz kb;have kI:(kb:Int)<(s.1.length:Int):=by omega
   obtain⟨wb,hwb⟩:∃wb,wb=wz.setCell (b5.add kb) (.int .i64 1):=⟨_,rfl⟩
   have hOb:=(hset wz (Kb.refl _ _) 1).1;have kxb:=(hset wz (Kb.refl _ _) 1).2;rw[<-hwb]at hOb kxb;have kzb:Kb 0 w7 wb:=Kx.kb kz kxb hq5;obtain⟨b'',q'',cr',y'',g1,g2,g3,g4,g5,cy2,fz2,hset2⟩:=own_wr hOb (k:=kb+1) (by rw[List.length_set,hz.1];omega);have g6:=Value.slice.inj g1;obtain rfl:b5=b'':=by simpa using g6.1
   obtain rfl:q5=q'':=by have:=hob5.symm.trans g5;simpa using this
   obtain⟨k1,hk1⟩:∃k1:Nat,(kb:Int)=(k1:Int)-1:=⟨kb+1,by omega⟩
   have ek1:kb+1=k1:=by omega
   rw[ek1]at cy2 hset2;have fzk:=fz2 k1;have k1I:(k1:Int)<(s.1.length:Int):=by omega
   obtain⟨wc,hwc⟩:∃wc,wc=wb.setCell (b5.add k1) (.int .i64 1):=⟨_,rfl⟩
   have hOc:=(hset2 wb (Kb.refl _ _) 1).1;have kxc:=(hset2 wb (Kb.refl _ _) 1).2;rw[<-hwc]at hOc kxc;have kzc:Kb 0 w7 wc:=Kx.kb kzb kxc hq5;rw[<-ek1,hz.done hkb]at hOc;obtain⟨x2',x3',x4'⟩:=(uh HY) wb kzb;obtain⟨y2',y3',y4'⟩:=(uh HY) wc kzc;have HKc:Hid (Kb 0 w7 wc):=kzc;have HK1:Hid ((kb:Int)=(k1:Int)-1):=hk1;have HWB:Hid (wb=_):=hwb;have HWC:Hid (wc=_):=hwc;have hrr:=(uh HRR)
   have HE2:Hid (∀gg,gg<w7.heap.size->w.heap.size<=gg->FoE (λk=>av k/\k≠gg) wc (j,.slice (some b5) s.1.length cap5,.slice pg0 s.2.length cg0) (j,(tcl s.1 (kb:Int),s.2))):=(λgg hgg hgw=>by
    have hav:=(uh HAV).1;refine⟨rfl,hOc.rz.imp (λb _ hb=>⟨hav b (by omega),by omega⟩),?_⟩
    exact(hrr.2.1.imp (λb hb h=>(⟨h,by omega⟩:av b/\b≠gg))).kb ((uh HK7).1.trans kzc):∀gg,_)
   clear hz hO kz hb5 hq5 hob5 e1 e2 e3 e4 e5 e6 hset fz hwb hOb kxb kzb g1 g2 g3 g4 g5 g6 fz2 hset2 hk1 ek1 hwc hOc kxc kzc hrr er hkb hr1 hr2 HKB HQ5 HY HKT;rw[(uh HK1)]at x4';go_upto_region 25 with fail;rw[<-(uh HWB)];clear HWB c2' c3' c4' cy fzb;go_upto_region 26 with fail;rw[<-(uh HWC)];clear HWC x2' x3' x4' cy2 fzk y4';have howna:∀o,(wc.alloc o).ownsRow w.heap.size 89 4 (.slice (some ⟨g,0,none⟩) 1 cap') 1 (nx4 (i+1,.slice pt1 T.length ct1,.slice pg1 G.length cg1)):=λo=>World.ownsRow.alloc (rowBlk' (uh HZ1).1 (λb e=>(uh HKc).block b zq ((uh HZ1).1.lt b e).2)) o;have hqc:=qr_cells wc #[.int .i64 j,.bool true,.slice (some b5) s.1.length cap5,.slice pg0 s.2.length cg0] 89 [.int .i64 j,.bool true,.slice (some b5) s.1.length cap5,.slice pg0 s.2.length cg0] rfl;have h1c:∀u ∈ ([.int .i64 j,.bool true,.slice (some b5) s.1.length cap5,.slice pg0 s.2.length cg0]:List Value),u.oneCell'=true:=by intro u hu;simp at hu;rcases hu with rfl|rfl|rfl|rfl<;>rfl
   have hWw:w.heap.size<=wc.heap.size:=Nat.le_trans h7w (uh HKc).size
   have HSTQ:Hid (∀(E:Obj) (g' c2:Nat) (w9:World),w9.ownsRow w.heap.size 89 4 (.slice (some ⟨g',0,none⟩) (1+1) c2) (1+1) (nx4 (i+1,.slice pt1 T.length ct1,.slice pg1 G.length cg1)++[.int .i64 j,.bool true,.slice (some b5) s.1.length cap5,.slice pg0 s.2.length cg0])->(wc.alloc E).grownBy w9 (Value.slice (some ⟨g,0,none⟩) 1 cap').ownBlock->FoA av (fol (d.N i) i s T G) w (.returned (.slice (some ⟨g',0,none⟩) 2 c2)) w9):=(λE g' c2 w9 h1 h2=>by
    have hz1:=(uh HZ1)
    have kk:Kb 0 w7 wc:=HKc;have hg1:=(hz1.1.lt g rfl)
    have hav:=(uh HAV).1;have e1:FoE (λk=>av k/\k≠g) wc (i+1,.slice pt1 T.length ct1,.slice pg1 G.length cg1) (i+1,(T,G)):=(hz1.2.1.imp (λb _ h=>⟨h.1,by omega⟩)).on (λb _ hb=>kk.block b zq hb);have e2:FoE (λk=>av k/\k≠g) wc (j,.slice (some b5) s.1.length cap5,.slice pg0 s.2.length cg0) (j,(tcl s.1 (kb:Int),s.2)):=(uh HE2) g hg1.2 hg1.1;refine⟨_,rfl,?_,((uh HK7).1.trans kk |>.alloc E).gr h2 (λb e=>by cases e;exact hg1.1)⟩;rw[(uh HAV).2.1,show fol ⟨31,(j:Int),(kb:Int),oc,od⟩ i s T G=[(i+1,(T,G)),(j,(tcl s.1 (kb:Int),s.2))]from by unfold fol Ends tgt att;simp]
    exact(for_two e1 e2 (λb hb _ q=>hb.2 (by simpa [Value.ownBlock]using q)) h1 h2).imp (λb _ h=>h.1):∀(E:Obj),_)
   clear HZ1 HK7 HRR;go_wp2_with (at_builtin;refine wpList_append_lies _ rfl (.tmp 116) (.tmp 124) 86 rfl w.heap.size 89 i0 (.agg #[.int .i64 0,.bool false,.slice none 0 0,.slice none 0 0]) 4 64 Tryz.underlying86 HI0 hz0 hzs hzb rfl (by decide) _ _ _ rfl (howna _) ⟨wc.heap.size,0,none⟩ 1 1 [.int .i64 j,.bool true,.slice (some b5) s.1.length cap5,.slice pg0 s.2.length cg0] rfl rfl hqc h1c (by decide) (by unfold maxLen;omega) (by omega) (by rw[World.size_alloc];omega) (wc.heap.size+1) (by simp) ?_;intro g' cap2 w9 hown3 hgr3 hl3 _;have HZ:Hid _:=(uh HSTQ) _ _ _ _ hown3 hgr3;clear hown3 hgr3 hl3 howna hqc h1c HSTQ);refine bodyPost_ret (by simp[results,Tryz.results38,go_sem];rfl) rfl ?_;exact HZ
theorem fo_29(w:World)(hrow:RowI 0 w (.slice pn d.n cn) d.n d.N)(hi:i<d.n)(hn:d.n<=1048576)(hx:IsSl vu/\IsSl vc/\IsSl vd)(ha:d.N i=⟨o,oa,ob,oc,od⟩)(r0:Rz av w vt0 s.1)(r1:Rg av w vg0 s.2)(r2:Rz av w vt1 T)(r3:Rg av w vg1 G)(hav:∀k,w.heap.size<=k->av k)(hlen:s.1.length<=250/\T.length=s.1.length)(h:o=29):
  Calls Tryz.prog 38 #[.agg #[.string d.x,.int .i64 d.l,.int .i64 d.m,.bool d.r,.int .i64 d.g,vu,vc,.slice pn d.n cn,vd],.int .i64 i,.agg #[.bool true,vt0,vg0],vt1,vg1] w (FoA av (fol (d.N i) i s T G) w):=by
 subst h;obtain⟨⟨a1,b1,c1,rfl⟩,⟨a2,b2,c2,rfl⟩,⟨a3,b3,c3,rfl⟩⟩:=hx;obtain⟨pn',cn',ee,hr2⟩:=hrow;obtain⟨rfl,rfl⟩:pn=pn'/\cn=cn':=by simpa using ee
 obtain⟨p,rfl,hcp,-,hrb⟩:=hr2 (by omega);obtain⟨pt0,ct0,e0,-⟩:=id r0;obtain⟨pg0,cg0,e1,-⟩:=id r1;obtain⟨pt1,ct1,e2,-⟩:=id r2;obtain⟨pg1,cg1,e3,-⟩:=id r3;subst e0 e1 e2 e3;have hci:=hrb i hi;rw[ha]at hci;obtain⟨q0,q1,q2,q3,q4⟩:=CelI.keep (c:=0) hci zq (kb_alloc2 0 w (.cells #[.string d.x,.int .i64 d.l,.int .i64 d.m,.bool d.r,.int .i64 d.g,.slice a1 b1 c1,.slice a2 b2 c2,.slice (some p) d.n cn,.slice a3 b3 c3] 52) (.cells #[.bool true,.slice pt0 s.1.length ct0,.slice pg0 s.2.length cg0] 58));have iI:(i:Int)<(d.n:Int):=by omega
 have nI:(d.n:Int)<=1048576:=by omega
 obtain⟨w3,hw3⟩:∃w3,w3=((w.alloc (.cells #[.string d.x,.int .i64 d.l,.int .i64 d.m,.bool d.r,.int .i64 d.g,.slice a1 b1 c1,.slice a2 b2 c2,.slice (some p) d.n cn,.slice a3 b3 c3] 52)).alloc (.cells #[.bool true,.slice pt0 s.1.length ct0,.slice pg0 s.2.length cg0] 58)).alloc (.cells #[.int .i64 29,.int .i64 oa,.int .i64 ob,.int .i64 oc,.int .i64 od] 79):=⟨_,rfl⟩
 obtain⟨t0,t1,t2,ts,k3⟩:=three_new w _ _ _ _ _ _ w3 hw3;obtain⟨w4,hw4⟩:∃w4,w4=w3.alloc (.cells #[.bool true,.slice pt1 T.length ct1,.slice pg1 G.length cg1] 58):=⟨_,rfl⟩
 have k34:Kb 0 w3 w4:=by rw[hw4];exact kb_alloc _ _ _
 have k4:=k3.trans k34;have hs4:w4.heap.size=w.heap.size+4:=by rw[hw4,World.size_alloc,ts]
 have t3:w4.heap[w.heap.size+3]? =some (.cells #[.bool true,.slice pt1 T.length ct1,.slice pg1 G.length cg1] 58 (0,0)):=by rw[hw4,<-ts];exact alloc_new _ _ _
 have t2':=(k34.block _ zq (by omega)).trans t2;have t1':=(k34.block _ zq (by omega)).trans t1;have HBL:Hid (w4.heap[w.heap.size+1]? =some (.cells #[.bool true,.slice pt0 s.1.length ct0,.slice pg0 s.2.length cg0] 58 (0,0))/\w4.heap[w.heap.size+1+1]? =some (.cells #[.int .i64 29,.int .i64 oa,.int .i64 ob,.int .i64 oc,.int .i64 od] 79 (0,0))/\w4.heap[w.heap.size+3]? =some (.cells #[.bool true,.slice pt1 T.length ct1,.slice pg1 G.length cg1] 58 (0,0))/\w4.heap.size=w.heap.size+4/\Kb 0 w w4):=(⟨t1',t2',t3,hs4,k4⟩:_/\_)
 have d0:w4.cell? ⟨w.heap.size+1+1,0,none⟩=some (.int .i64 29):=cell_of t2' rfl;have d1:w4.cell? ⟨w.heap.size+1+1,1,none⟩=some (.int .i64 oa):=cell_of t2' rfl;have d2:w4.cell? ⟨w.heap.size+1+1,2,none⟩=some (.int .i64 ob):=cell_of t2' rfl;have d3:w4.cell? ⟨w.heap.size+1+1,3,none⟩=some (.int .i64 oc):=cell_of t2' rfl;have f0:w4.cell? ⟨w3.heap.size,0,none⟩=some (.bool true):=by rw[ts];exact cell_of t3 rfl
 have f1:w4.cell? ⟨w3.heap.size,1,none⟩=some (.slice pt1 T.length ct1):=by rw[ts];exact cell_of t3 rfl
 have f2:w4.cell? ⟨w3.heap.size,2,none⟩=some (.slice pg1 G.length cg1):=by rw[ts];exact cell_of t3 rfl
 obtain⟨s3,hs3⟩:∃s3,s3=w3.heap.size:=⟨_,rfl⟩
 rw[<-hs3]at f0 f1 f2;have HS3:Hid (s3=w3.heap.size/\w3.heap.size=w.heap.size+3):=(⟨hs3,ts⟩:_/\_)
 have HW3:Hid (w3=_):=hw3;have HW4:Hid (w4=_):=hw4;have h4w:w.heap.size<=w4.heap.size:=by omega
 have E1:FoE (λk=>av k/\k<w.heap.size) w4 (i+1,.slice pt1 T.length ct1,.slice pg1 G.length cg1) (i+1,(T,G)):=⟨rfl,(r2.imp (λb hb h=>⟨h,hb⟩)).kb k4,(r3.imp (λb hb h=>⟨h,hb⟩)).kb k4⟩
 have HZ:Hid (FoA av (fol (d.N i) i s T G) w (.returned (.slice none 0 0)) w4):=⟨_,rfl,by rw[ha,show fol ⟨29,oa,ob,oc,od⟩ i s T G=[]from by unfold fol Ends tgt;simp];exact for_nil _ _ _,k4⟩
 clear E1;clear hw3 hw4 t0 t1 t2 ts k3 k34 hs4 t3 t2' t1' hr2 hrb hci hcp ee hi hn hs3 k4 r0 r1 r2 r3 ha hav hlen;go_enter Tryz.func38,Tryz.ntmps38;go_upto_region 3 with fail;rw[<-(uh HW3)];go_upto_region 4 with fail;rw[<-(show s3=w3.heap.size from(uh HS3).1),<-(uh HW4)];clear HW3 HW4 q0 q1 q2 q3 q4;go_wp2_with fail;refine bodyPost_ret (by simp[results,Tryz.results38,go_sem];rfl) rfl ?_;exact HZ
theorem fo_30(w:World)(hrow:RowI 0 w (.slice pn d.n cn) d.n d.N)(hi:i<d.n)(hn:d.n<=1048576)(hx:IsSl vu/\IsSl vc/\IsSl vd)(ha:d.N i=⟨o,oa,ob,oc,od⟩)(r0:Rz av w vt0 s.1)(r1:Rg av w vg0 s.2)(r2:Rz av w vt1 T)(r3:Rg av w vg1 G)(hav:∀k,w.heap.size<=k->av k)(hlen:s.1.length<=250/\T.length=s.1.length)(h:o=30):
  Calls Tryz.prog 38 #[.agg #[.string d.x,.int .i64 d.l,.int .i64 d.m,.bool d.r,.int .i64 d.g,vu,vc,.slice pn d.n cn,vd],.int .i64 i,.agg #[.bool true,vt0,vg0],vt1,vg1] w (FoA av (fol (d.N i) i s T G) w):=by
 subst h;obtain⟨⟨a1,b1,c1,rfl⟩,⟨a2,b2,c2,rfl⟩,⟨a3,b3,c3,rfl⟩⟩:=hx;obtain⟨pn',cn',ee,hr2⟩:=hrow;obtain⟨rfl,rfl⟩:pn=pn'/\cn=cn':=by simpa using ee
 obtain⟨p,rfl,hcp,-,hrb⟩:=hr2 (by omega);obtain⟨pt0,ct0,e0,-⟩:=id r0;obtain⟨pg0,cg0,e1,-⟩:=id r1;obtain⟨pt1,ct1,e2,-⟩:=id r2;obtain⟨pg1,cg1,e3,-⟩:=id r3;subst e0 e1 e2 e3;have hci:=hrb i hi;rw[ha]at hci;obtain⟨q0,q1,q2,q3,q4⟩:=CelI.keep (c:=0) hci zq (kb_alloc2 0 w (.cells #[.string d.x,.int .i64 d.l,.int .i64 d.m,.bool d.r,.int .i64 d.g,.slice a1 b1 c1,.slice a2 b2 c2,.slice (some p) d.n cn,.slice a3 b3 c3] 52) (.cells #[.bool true,.slice pt0 s.1.length ct0,.slice pg0 s.2.length cg0] 58));have iI:(i:Int)<(d.n:Int):=by omega
 have nI:(d.n:Int)<=1048576:=by omega
 obtain⟨w3,hw3⟩:∃w3,w3=((w.alloc (.cells #[.string d.x,.int .i64 d.l,.int .i64 d.m,.bool d.r,.int .i64 d.g,.slice a1 b1 c1,.slice a2 b2 c2,.slice (some p) d.n cn,.slice a3 b3 c3] 52)).alloc (.cells #[.bool true,.slice pt0 s.1.length ct0,.slice pg0 s.2.length cg0] 58)).alloc (.cells #[.int .i64 30,.int .i64 oa,.int .i64 ob,.int .i64 oc,.int .i64 od] 79):=⟨_,rfl⟩
 obtain⟨t0,t1,t2,ts,k3⟩:=three_new w _ _ _ _ _ _ w3 hw3;obtain⟨w4,hw4⟩:∃w4,w4=w3.alloc (.cells #[.bool true,.slice pt1 T.length ct1,.slice pg1 G.length cg1] 58):=⟨_,rfl⟩
 have k34:Kb 0 w3 w4:=by rw[hw4];exact kb_alloc _ _ _
 have k4:=k3.trans k34;have hs4:w4.heap.size=w.heap.size+4:=by rw[hw4,World.size_alloc,ts]
 have t3:w4.heap[w.heap.size+3]? =some (.cells #[.bool true,.slice pt1 T.length ct1,.slice pg1 G.length cg1] 58 (0,0)):=by rw[hw4,<-ts];exact alloc_new _ _ _
 have t2':=(k34.block _ zq (by omega)).trans t2;have t1':=(k34.block _ zq (by omega)).trans t1;have HBL:Hid (w4.heap[w.heap.size+1]? =some (.cells #[.bool true,.slice pt0 s.1.length ct0,.slice pg0 s.2.length cg0] 58 (0,0))/\w4.heap[w.heap.size+1+1]? =some (.cells #[.int .i64 30,.int .i64 oa,.int .i64 ob,.int .i64 oc,.int .i64 od] 79 (0,0))/\w4.heap[w.heap.size+3]? =some (.cells #[.bool true,.slice pt1 T.length ct1,.slice pg1 G.length cg1] 58 (0,0))/\w4.heap.size=w.heap.size+4/\Kb 0 w w4):=(⟨t1',t2',t3,hs4,k4⟩:_/\_)
 have d0:w4.cell? ⟨w.heap.size+1+1,0,none⟩=some (.int .i64 30):=cell_of t2' rfl;have d1:w4.cell? ⟨w.heap.size+1+1,1,none⟩=some (.int .i64 oa):=cell_of t2' rfl;have d2:w4.cell? ⟨w.heap.size+1+1,2,none⟩=some (.int .i64 ob):=cell_of t2' rfl;have d3:w4.cell? ⟨w.heap.size+1+1,3,none⟩=some (.int .i64 oc):=cell_of t2' rfl;have f0:w4.cell? ⟨w3.heap.size,0,none⟩=some (.bool true):=by rw[ts];exact cell_of t3 rfl
 have f1:w4.cell? ⟨w3.heap.size,1,none⟩=some (.slice pt1 T.length ct1):=by rw[ts];exact cell_of t3 rfl
 have f2:w4.cell? ⟨w3.heap.size,2,none⟩=some (.slice pg1 G.length cg1):=by rw[ts];exact cell_of t3 rfl
 obtain⟨s3,hs3⟩:∃s3,s3=w3.heap.size:=⟨_,rfl⟩
 rw[<-hs3]at f0 f1 f2;have HS3:Hid (s3=w3.heap.size/\w3.heap.size=w.heap.size+3):=(⟨hs3,ts⟩:_/\_)
 have HW3:Hid (w3=_):=hw3;have HW4:Hid (w4=_):=hw4;have h4w:w.heap.size<=w4.heap.size:=by omega
 have E1:FoE (λk=>av k/\k<w.heap.size) w4 (i+1,.slice pt1 T.length ct1,.slice pg1 G.length cg1) (i+1,(T,G)):=⟨rfl,(r2.imp (λb hb h=>⟨h,hb⟩)).kb k4,(r3.imp (λb hb h=>⟨h,hb⟩)).kb k4⟩
 have HZ:Hid (FoA av (fol (d.N i) i s T G) w (.returned (.slice none 0 0)) w4):=⟨_,rfl,by rw[ha,show fol ⟨30,oa,ob,oc,od⟩ i s T G=[]from by unfold fol Ends tgt;simp];exact for_nil _ _ _,k4⟩
 clear E1;clear hw3 hw4 t0 t1 t2 ts k3 k34 hs4 t3 t2' t1' hr2 hrb hci hcp ee hi hn hs3 k4 r0 r1 r2 r3 ha hav hlen;go_enter Tryz.func38,Tryz.ntmps38;go_upto_region 3 with fail;rw[<-(uh HW3)];go_upto_region 4 with fail;rw[<-(show s3=w3.heap.size from(uh HS3).1),<-(uh HW4)];clear HW3 HW4 q0 q1 q2 q3 q4;go_wp2_with fail;refine bodyPost_ret (by simp[results,Tryz.results38,go_sem];rfl) rfl ?_;exact HZ
theorem fo_19(w:World)(hrow:RowI 0 w (.slice pn d.n cn) d.n d.N)(hi:i<d.n)(hn:d.n<=1048576)(hx:IsSl vu/\IsSl vc/\IsSl vd)(ha:d.N i=⟨o,oa,ob,oc,od⟩)(r0:Rz av w vt0 s.1)(r1:Rg av w vg0 s.2)(r2:Rz av w vt1 T)(r3:Rg av w vg1 G)(hav:∀k,w.heap.size<=k->av k)(hlen:s.1.length<=250/\T.length=s.1.length)(h:o=19)(hj:0<=oa):
  Calls Tryz.prog 38 #[.agg #[.string d.x,.int .i64 d.l,.int .i64 d.m,.bool d.r,.int .i64 d.g,vu,vc,.slice pn d.n cn,vd],.int .i64 i,.agg #[.bool true,vt0,vg0],vt1,vg1] w (FoA av (fol (d.N i) i s T G) w):=by
 subst h;obtain⟨j,rfl⟩:∃j:Nat,oa=(j:Int):=⟨oa.toNat,by omega⟩
 obtain⟨⟨a1,b1,c1,rfl⟩,⟨a2,b2,c2,rfl⟩,⟨a3,b3,c3,rfl⟩⟩:=hx;obtain⟨pn',cn',ee,hr2⟩:=hrow;obtain⟨rfl,rfl⟩:pn=pn'/\cn=cn':=by simpa using ee
 obtain⟨p,rfl,hcp,-,hrb⟩:=hr2 (by omega);obtain⟨pt0,ct0,e0,-⟩:=id r0;obtain⟨pg0,cg0,e1,-⟩:=id r1;obtain⟨pt1,ct1,e2,-⟩:=id r2;obtain⟨pg1,cg1,e3,-⟩:=id r3;subst e0 e1 e2 e3;have hci:=hrb i hi;rw[ha]at hci;obtain⟨q0,q1,q2,q3,q4⟩:=CelI.keep (c:=0) hci zq (kb_alloc2 0 w (.cells #[.string d.x,.int .i64 d.l,.int .i64 d.m,.bool d.r,.int .i64 d.g,.slice a1 b1 c1,.slice a2 b2 c2,.slice (some p) d.n cn,.slice a3 b3 c3] 52) (.cells #[.bool true,.slice pt0 s.1.length ct0,.slice pg0 s.2.length cg0] 58));have iI:(i:Int)<(d.n:Int):=by omega
 have nI:(d.n:Int)<=1048576:=by omega
 obtain⟨w3,hw3⟩:∃w3,w3=((w.alloc (.cells #[.string d.x,.int .i64 d.l,.int .i64 d.m,.bool d.r,.int .i64 d.g,.slice a1 b1 c1,.slice a2 b2 c2,.slice (some p) d.n cn,.slice a3 b3 c3] 52)).alloc (.cells #[.bool true,.slice pt0 s.1.length ct0,.slice pg0 s.2.length cg0] 58)).alloc (.cells #[.int .i64 19,.int .i64 j,.int .i64 ob,.int .i64 oc,.int .i64 od] 79):=⟨_,rfl⟩
 obtain⟨t0,t1,t2,ts,k3⟩:=three_new w _ _ _ _ _ _ w3 hw3;obtain⟨w4,hw4⟩:∃w4,w4=w3.alloc (.cells #[.bool true,.slice pt1 T.length ct1,.slice pg1 G.length cg1] 58):=⟨_,rfl⟩
 have k34:Kb 0 w3 w4:=by rw[hw4];exact kb_alloc _ _ _
 have k4:=k3.trans k34;have hs4:w4.heap.size=w.heap.size+4:=by rw[hw4,World.size_alloc,ts]
 have t3:w4.heap[w.heap.size+3]? =some (.cells #[.bool true,.slice pt1 T.length ct1,.slice pg1 G.length cg1] 58 (0,0)):=by rw[hw4,<-ts];exact alloc_new _ _ _
 have t2':=(k34.block _ zq (by omega)).trans t2;have t1':=(k34.block _ zq (by omega)).trans t1;have HBL:Hid (w4.heap[w.heap.size+1]? =some (.cells #[.bool true,.slice pt0 s.1.length ct0,.slice pg0 s.2.length cg0] 58 (0,0))/\w4.heap[w.heap.size+1+1]? =some (.cells #[.int .i64 19,.int .i64 j,.int .i64 ob,.int .i64 oc,.int .i64 od] 79 (0,0))/\w4.heap[w.heap.size+3]? =some (.cells #[.bool true,.slice pt1 T.length ct1,.slice pg1 G.length cg1] 58 (0,0))/\w4.heap.size=w.heap.size+4/\Kb 0 w w4):=(⟨t1',t2',t3,hs4,k4⟩:_/\_)
 have d0:w4.cell? ⟨w.heap.size+1+1,0,none⟩=some (.int .i64 19):=cell_of t2' rfl;have d1:w4.cell? ⟨w.heap.size+1+1,1,none⟩=some (.int .i64 j):=cell_of t2' rfl;have d2:w4.cell? ⟨w.heap.size+1+1,2,none⟩=some (.int .i64 ob):=cell_of t2' rfl;have d3:w4.cell? ⟨w.heap.size+1+1,3,none⟩=some (.int .i64 oc):=cell_of t2' rfl;have f0:w4.cell? ⟨w3.heap.size,0,none⟩=some (.bool true):=by rw[ts];exact cell_of t3 rfl
 have f1:w4.cell? ⟨w3.heap.size,1,none⟩=some (.slice pt1 T.length ct1):=by rw[ts];exact cell_of t3 rfl
 have f2:w4.cell? ⟨w3.heap.size,2,none⟩=some (.slice pg1 G.length cg1):=by rw[ts];exact cell_of t3 rfl
 obtain⟨s3,hs3⟩:∃s3,s3=w3.heap.size:=⟨_,rfl⟩
 rw[<-hs3]at f0 f1 f2;have HS3:Hid (s3=w3.heap.size/\w3.heap.size=w.heap.size+3):=(⟨hs3,ts⟩:_/\_)
 have HW3:Hid (w3=_):=hw3;have HW4:Hid (w4=_):=hw4;have h4w:w.heap.size<=w4.heap.size:=by omega
 have E1:FoE (λk=>av k/\k<w.heap.size) w4 (i+1,.slice pt1 T.length ct1,.slice pg1 G.length cg1) (i+1,(T,G)):=⟨rfl,(r2.imp (λb hb h=>⟨h,hb⟩)).kb k4,(r3.imp (λb hb h=>⟨h,hb⟩)).kb k4⟩
 have E2:FoE av w4 (j,.slice pt1 T.length ct1,.slice pg1 G.length cg1) (j,(T,G)):=⟨rfl,r2.kb k4,r3.kb k4⟩
 have HSTP:Hid (∀(E:Obj) (g c':Nat) (w7:World),w7.ownsRow w.heap.size 89 4 (.slice (some ⟨g,0,none⟩) (0+1) c') (0+1) ([]++[.int .i64 j,.bool true,.slice pt1 T.length ct1,.slice pg1 G.length cg1])->(w4.alloc E).grownBy w7 (Value.slice none 0 0).ownBlock->FoA av (fol (d.N i) i s T G) w (.returned (.slice (some ⟨g,0,none⟩) 1 c')) w7):=(λE g c' w7 h1 h2=>⟨_,rfl,by rw[ha,show fol ⟨19,(j:Int),ob,oc,od⟩ i s T G=[(j,(T,G))]from by unfold fol Ends tgt att;simp];exact for_one E2 (by simpa [nx4]using h1) h2,(k4.alloc E).gr h2 (λg e=>by cases e)⟩:∀(E:Obj),_)
 have hqc:=qr_cells w4 #[.int .i64 j,.bool true,.slice pt1 T.length ct1,.slice pg1 G.length cg1] 89 [.int .i64 j,.bool true,.slice pt1 T.length ct1,.slice pg1 G.length cg1] rfl;have h1c:∀u ∈ ([.int .i64 j,.bool true,.slice pt1 T.length ct1,.slice pg1 G.length cg1]:List Value),u.oneCell'=true:=by intro u hu;simp at hu;rcases hu with rfl|rfl|rfl|rfl<;>rfl
 clear E1 E2;obtain⟨i0,hi0,hz0,hzs,hzb⟩:=info_parts infoN;have HI0:Hid (Tryz.prog.info? 89=some i0):=hi0;clear hi0;clear hw3 hw4 t0 t1 t2 ts k3 k34 hs4 t3 t2' t1' hr2 hrb hci hcp ee hi hn hs3 k4 r0 r1 r2 r3 ha hav hlen;go_enter Tryz.func38,Tryz.ntmps38;go_upto_region 3 with fail;rw[<-(uh HW3)];go_upto_region 4 with fail;rw[<-(show s3=w3.heap.size from(uh HS3).1),<-(uh HW4)];clear HW3 HW4 q0 q1 q2 q3 q4;go_wp2_with (at_builtin;refine wpList_append_lies _ rfl (.tmp 49) (.tmp 54) 86 rfl w.heap.size 89 i0 (.agg #[.int .i64 0,.bool false,.slice none 0 0,.slice none 0 0]) 4 64 Tryz.underlying86 HI0 hz0 hzs hzb rfl (by decide) _ _ _ rfl (World.ownsRow_nil _ _ _ _) ⟨w4.heap.size,0,none⟩ 1 1 [.int .i64 j,.bool true,.slice pt1 T.length ct1,.slice pg1 G.length cg1] rfl rfl hqc h1c (by decide) (by unfold maxLen;omega) (by omega) (by rw[World.size_alloc];omega) (w4.heap.size+1) (by simp) ?_;intro g cap' w7 hown3 hgr3 hl3 _;have HZ:Hid _:=(uh HSTP) _ _ _ _ hown3 hgr3;clear hown3 hgr3 hl3 hqc h1c HSTP);refine bodyPost_ret (by simp[results,Tryz.results38,go_sem];rfl) rfl ?_;exact HZ
