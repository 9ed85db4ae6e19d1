import Derived.Test.YtohbcpfjjimdnaaGreatDoorMTme
set_option maxHeartbeats 16000000
namespace Go.Proofs.YtohbcpfjjimdnaaGreatDoor.Fo
open Go.ChangeShapes Go.WideShapes Go.ChangeAt Go.RowKit
set_option linter.unusedVariables false
set_option maxRecDepth 100000
variable {av:Nat->Prop}{vg v vt vk vs v':Value}{G:List Gv}{b base q n k np g c' H i:Nat}{W w1 w2 w' w4 w7:World}{T Tl Sl Kl:List Int}{d:Pd}{a:Iv}{x:Int}{E:Obj}{F:Nat->Pd}
theorem ch_36(a:Iv)(w:World)(h1:Rg av w vg G)(hn:G.length<=50)(hop:a.o=36):
  Calls Tryz.prog 35 #[.agg #[.int .i64 a.o,.int .i64 a.a,.int .i64 a.b,.int .i64 a.c,.int .i64 a.d],vg] w (ChA a G w):=by
 obtain⟨o,oa,ob,oc,od⟩:=a;dsimp only at hop;subst hop;by_cases hnil:G=[]
 ·subst hnil;have hF:dc (gfit ⟨36,oa,ob,oc,od⟩ [])=false:=dc_f (by unfold gfit;simp[dfr]);have HNF:Hid (¬gfit ⟨36,oa,ob,oc,od⟩ []):=(by unfold gfit;simp[dfr]:¬gfit ⟨36,oa,ob,oc,od⟩ [])
  unfold ChA;rw[hF];clear hF;obtain⟨pg,cg,rfl,hcg,r1⟩:=h1;obtain⟨w2,hw2⟩:∃w2,w2=w.alloc (.cells #[.int .i64 36,.int .i64 oa,.int .i64 ob,.int .i64 oc,.int .i64 od] 79):=⟨_,rfl⟩
  have k2:Kb 0 w w2:=by rw[hw2];exact kb_alloc _ _ _
  have hs2:w2.heap.size=w.heap.size+1:=by rw[hw2];exact World.size_alloc _ _
  have hbk:w2.heap[w.heap.size]? =some (.cells #[.int .i64 36,.int .i64 oa,.int .i64 ob,.int .i64 oc,.int .i64 od] 79 (0,0)):=by rw[hw2];exact alloc_new _ _ _
  have hR:Rg av w (.slice pg ([]:List Gv).length cg) ([]:List Gv):=⟨pg,cg,rfl,hcg,r1⟩
  have HC:=sp_guards w2 (hR.kb k2) (by simp);have HN:Hid (([]:List Gv).length<=1000):=(by simp:([]:List Gv).length<=1000)
  have HW:Hid (w2=_):=hw2;have HG:Hid (Rg av w (.slice pg ([]:List Gv).length cg) ([]:List Gv)/\Kb 0 w w2/\w2.heap.size=w.heap.size+1/\w2.heap[w.heap.size]? =some (.cells #[.int .i64 36,.int .i64 oa,.int .i64 ob,.int .i64 oc,.int .i64 od] 79 (0,0))):=(⟨hR,k2,hs2,hbk⟩:_/\_)
  clear hw2 r1 hcg hR k2 hs2 hbk hn;go_enter Tryz.func35,Tryz.ntmps35;go_wp2_with fail;rw[<-(uh HW)];clear HW;refine HC.mono ?_;rintro e w3 ⟨v,rfl,hO,k3⟩;obtain⟨ad,cap,rfl⟩:=own_shape hO;obtain⟨hR,k2,hs2,hbk⟩:=(uh HG)
  have hb3:=(k3.block w.heap.size zq (by omega)).trans hbk;have c0:w3.cell? ⟨w.heap.size,0,none⟩=some (.int .i64 36):=cell_of hb3 rfl;have c1:w3.cell? ⟨w.heap.size,1,none⟩=some (.int .i64 oa):=cell_of hb3 rfl;have c2:w3.cell? ⟨w.heap.size,2,none⟩=some (.int .i64 ob):=cell_of hb3 rfl;have k03:=k2.trans k3;have hs3:=k3.size;clear HG HC hbk;have HKK:Hid (Kb 0 w w3):=k03;clear hO hR k2 hb3 k03 hs2 k3 hs3 HN;go_wp2_with fail;refine bodyPost_ret (by simp[results,Tryz.results35,go_sem];rfl) rfl ?_;exact⟨_,_,_,rfl,λq=>absurd q HNF,HKK⟩
 obtain⟨m,g,hL⟩:=last_of hnil;have HL:Hid (LastP G m g/\(gfit ⟨36,oa,ob,oc,od⟩ G↔g.1=false)):=(⟨hL,by unfold gfit;simp[hL.2.2.2.1]⟩:_/\_)
 clear hL hnil;obtain⟨pg,cg,rfl,hcg,r1⟩:=h1;obtain⟨w2,hw2⟩:∃w2,w2=w.alloc (.cells #[.int .i64 36,.int .i64 oa,.int .i64 ob,.int .i64 oc,.int .i64 od] 79):=⟨_,rfl⟩
 have k2:Kb 0 w w2:=by rw[hw2];exact kb_alloc _ _ _
 have hs2:w2.heap.size=w.heap.size+1:=by rw[hw2];exact World.size_alloc _ _
 have hbk:w2.heap[w.heap.size]? =some (.cells #[.int .i64 36,.int .i64 oa,.int .i64 ob,.int .i64 oc,.int .i64 od] 79 (0,0)):=by rw[hw2];exact alloc_new _ _ _
 have hR:Rg av w (.slice pg G.length cg) G:=⟨pg,cg,rfl,hcg,r1⟩
 have HC:=sp_guards w2 (hR.kb k2) (by omega);have hnI:(G.length:Int)<=1000:=by omega
 have HN:Hid (G.length<=1000):=(by omega:G.length<=1000)
 have HW:Hid (w2=_):=hw2;have HG:Hid (Rg av w (.slice pg G.length cg) G/\Kb 0 w w2/\w2.heap.size=w.heap.size+1/\w2.heap[w.heap.size]? =some (.cells #[.int .i64 36,.int .i64 oa,.int .i64 ob,.int .i64 oc,.int .i64 od] 79 (0,0))):=(⟨hR,k2,hs2,hbk⟩:_/\_)
 clear hw2 r1 hcg hR k2 hs2 hbk hn;go_enter Tryz.func35,Tryz.ntmps35;go_wp2_with fail;rw[<-(uh HW)];clear HW;refine HC.mono ?_;rintro e w3 ⟨v,rfl,hO,k3⟩;obtain⟨ad,cap,rfl⟩:=own_shape hO;have hl:=(uh HL).1.1;have hgm:=(uh HL).1.2.1
 obtain⟨q,rfl,hcap,hq2⟩:∃q,ad=some ⟨q,0,none⟩/\m+1<=cap/\w2.heap.size<=q:=by
  rcases hO.2 with⟨e,e'⟩|⟨q,c',cur,e,h1',h2',h3',_⟩
  ·rw[hl]at e';omega
  ·obtain⟨rfl,rfl⟩:ad=some ⟨q,0,none⟩/\cap=c':=by simpa using e
   exact⟨q,rfl,by rw[hl]at h3';exact h3',h1'⟩
 have hcs:∀t,t<3->w3.cell? ⟨q,m*3+t,none⟩=(gcl g)[t]?:=λt ht=>by
  have e:=gcl_at G m g hgm t ht;have:=World.ownsRow.cellAt hO (m*3+t) (by rw[hl];omega);rw[this,e]
 obtain⟨b,hbq⟩:∃b:Addr,b=⟨q,0,none⟩:=⟨_,rfl⟩
 have d0:w3.cell? (b.add (m*3))=some (.bool g.1):=by rw[hbq,addr0];exact hcs 0 (by omega)
 have HBQ:Hid (b=⟨q,0,none⟩/\w2.heap.size<=q):=(⟨hbq,hq2⟩:_/\_)
 rw[<-hbq]at hO;rw[<-hbq];have hcI:(m:Int)+1<=(cap:Int):=by omega
 have hmI:(m:Int)+1<=1000:=by omega
 obtain⟨hR,k2,hs2,hbk⟩:=(uh HG)
 have hb3:=(k3.block w.heap.size zq (by omega)).trans hbk;have c0:w3.cell? ⟨w.heap.size,0,none⟩=some (.int .i64 36):=cell_of hb3 rfl;have c1:w3.cell? ⟨w.heap.size,1,none⟩=some (.int .i64 oa):=cell_of hb3 rfl;have c2:w3.cell? ⟨w.heap.size,2,none⟩=some (.int .i64 ob):=cell_of hb3 rfl;have k03:=k2.trans k3;have hs3:=k3.size;clear HG HC hbk;have HFI:=(uh HL).2;rcases hg:g.1 with _|_
 ·rw[hg]at d0;have HGT:=HFI.2 hg
  have HZ:Hid (Rg (λk=>w.heap.size<=k) w3 (.slice (some b) m cap) (gbh ⟨36,oa,ob,oc,od⟩ G)/\Kb 0 w w3):=by
   refine And.intro ?_ k03;have hLL:=(uh HL).1;rw[show gbh ⟨36,oa,ob,oc,od⟩ G=G.dropLast from by unfold gbh;simp];obtain⟨p',c',e,h5,h6⟩:=hO.rg;obtain⟨rfl,rfl⟩:some b=p'/\cap=c':=by simpa using e
   refine⟨some b,cap,by rw[hLL.2.2.2.2.2.1],by rw[hLL.2.2.2.2.2.1];omega,λh=>⟨b,rfl,by rw[hbq];show w.heap.size<=q;omega,λj x hx=>?_⟩⟩;obtain⟨b',e2,-,h7⟩:=h6 (by rw[hl];omega);have e2:b=b':=by simpa using e2
   rw[e2];refine h7 j x ?_;have hj:=(List.getElem?_eq_some_iff.1 hx).1;rw[hLL.2.2.2.2.1,List.getElem?_append_left hj];exact hx
  rw[hl];have HGH:Hid (gfit ⟨36,oa,ob,oc,od⟩ G):=HGT;clear hO hR k2 hb3 k03 hs2 k3 hs3 HN hnI hcs hbq hq2 hcap hl hgm HGT HFI hg;go_wp2_with fail;refine bodyPost_ret (by simp[results,Tryz.results35,go_sem];rfl) rfl ?_;exact⟨_,_,_,by rw[dc_t (uh HGH)],λ_=>(uh HZ).1,(uh HZ).2⟩
 ·rw[hg]at d0;have hNF:¬gfit ⟨36,oa,ob,oc,od⟩ G:=λq=>by have:=HFI.1 q;rw[hg]at this;cases this
  rw[hl];have HNF:Hid (¬gfit ⟨36,oa,ob,oc,od⟩ G):=hNF;have HKK:Hid (Kb 0 w w3):=k03;clear hO hR k2 hb3 k03 hs2 k3 hs3 HN hnI hcs hbq hq2 hcap hl hgm hNF HFI hg;go_wp2_with fail;refine bodyPost_ret (by simp[results,Tryz.results35,go_sem];rfl) rfl ?_;exact⟨_,_,_,by rw[dc_f HNF],λq=>absurd q HNF,HKK⟩
theorem ch_35(a:Iv)(w:World)(h1:Rg av w vg G)(hn:G.length<=50)(hop:a.o=35):
  Calls Tryz.prog 35 #[.agg #[.int .i64 a.o,.int .i64 a.a,.int .i64 a.b,.int .i64 a.c,.int .i64 a.d],vg] w (ChA a G w):=by
 obtain⟨o,oa,ob,oc,od⟩:=a;dsimp only at hop;subst hop;by_cases hnil:G=[]
 ·subst hnil;have hF:dc (gfit ⟨35,oa,ob,oc,od⟩ [])=false:=dc_f (by unfold gfit;simp[dfr]);have HNF:Hid (¬gfit ⟨35,oa,ob,oc,od⟩ []):=(by unfold gfit;simp[dfr]:¬gfit ⟨35,oa,ob,oc,od⟩ [])
  unfold ChA;rw[hF];clear hF;obtain⟨pg,cg,rfl,hcg,r1⟩:=h1;obtain⟨w2,hw2⟩:∃w2,w2=w.alloc (.cells #[.int .i64 35,.int .i64 oa,.int .i64 ob,.int .i64 oc,.int .i64 od] 79):=⟨_,rfl⟩
  have k2:Kb 0 w w2:=by rw[hw2];exact kb_alloc _ _ _
  have hs2:w2.heap.size=w.heap.size+1:=by rw[hw2];exact World.size_alloc _ _
  have hbk:w2.heap[w.heap.size]? =some (.cells #[.int .i64 35,.int .i64 oa,.int .i64 ob,.int .i64 oc,.int .i64 od] 79 (0,0)):=by rw[hw2];exact alloc_new _ _ _
  have hR:Rg av w (.slice pg ([]:List Gv).length cg) ([]:List Gv):=⟨pg,cg,rfl,hcg,r1⟩
  have HC:=sp_guards w2 (hR.kb k2) (by simp);have HN:Hid (([]:List Gv).length<=1000):=(by simp:([]:List Gv).length<=1000)
  have HW:Hid (w2=_):=hw2;have HG:Hid (Rg av w (.slice pg ([]:List Gv).length cg) ([]:List Gv)/\Kb 0 w w2/\w2.heap.size=w.heap.size+1/\w2.heap[w.heap.size]? =some (.cells #[.int .i64 35,.int .i64 oa,.int .i64 ob,.int .i64 oc,.int .i64 od] 79 (0,0))):=(⟨hR,k2,hs2,hbk⟩:_/\_)
  clear hw2 r1 hcg hR k2 hs2 hbk hn;go_enter Tryz.func35,Tryz.ntmps35;go_wp2_with fail;rw[<-(uh HW)];clear HW;refine HC.mono ?_;rintro e w3 ⟨v,rfl,hO,k3⟩;obtain⟨ad,cap,rfl⟩:=own_shape hO;obtain⟨hR,k2,hs2,hbk⟩:=(uh HG)
  have hb3:=(k3.block w.heap.size zq (by omega)).trans hbk;have c0:w3.cell? ⟨w.heap.size,0,none⟩=some (.int .i64 35):=cell_of hb3 rfl;have c1:w3.cell? ⟨w.heap.size,1,none⟩=some (.int .i64 oa):=cell_of hb3 rfl;have c2:w3.cell? ⟨w.heap.size,2,none⟩=some (.int .i64 ob):=cell_of hb3 rfl;have k03:=k2.trans k3;have hs3:=k3.size;clear HG HC hbk;have HKK:Hid (Kb 0 w w3):=k03;clear hO hR k2 hb3 k03 hs2 k3 hs3 HN;go_wp2_with fail;refine bodyPost_ret (by simp[results,Tryz.results35,go_sem];rfl) rfl ?_;exact⟨_,_,_,rfl,λq=>absurd q HNF,HKK⟩
 obtain⟨m,g,hL⟩:=last_of hnil;have HL:Hid (LastP G m g/\(gfit ⟨35,oa,ob,oc,od⟩ G↔g.1=false)):=(⟨hL,by unfold gfit;simp[hL.2.2.2.1]⟩:_/\_)
 clear hL hnil;obtain⟨pg,cg,rfl,hcg,r1⟩:=h1;obtain⟨w2,hw2⟩:∃w2,w2=w.alloc (.cells #[.int .i64 35,.int .i64 oa,.int .i64 ob,.int .i64 oc,.int .i64 od] 79):=⟨_,rfl⟩
 have k2:Kb 0 w w2:=by rw[hw2];exact kb_alloc _ _ _
 have hs2:w2.heap.size=w.heap.size+1:=by rw[hw2];exact World.size_alloc _ _
 have hbk:w2.heap[w.heap.size]? =some (.cells #[.int .i64 35,.int .i64 oa,.int .i64 ob,.int .i64 oc,.int .i64 od] 79 (0,0)):=by rw[hw2];exact alloc_new _ _ _
 have hR:Rg av w (.slice pg G.length cg) G:=⟨pg,cg,rfl,hcg,r1⟩
 have HC:=sp_guards w2 (hR.kb k2) (by omega);have hnI:(G.length:Int)<=1000:=by omega
 have HN:Hid (G.length<=1000):=(by omega:G.length<=1000)
 have HW:Hid (w2=_):=hw2;have HG:Hid (Rg av w (.slice pg G.length cg) G/\Kb 0 w w2/\w2.heap.size=w.heap.size+1/\w2.heap[w.heap.size]? =some (.cells #[.int .i64 35,.int .i64 oa,.int .i64 ob,.int .i64 oc,.int .i64 od] 79 (0,0))):=(⟨hR,k2,hs2,hbk⟩:_/\_)
 clear hw2 r1 hcg hR k2 hs2 hbk hn;go_enter Tryz.func35,Tryz.ntmps35;go_wp2_with fail;rw[<-(uh HW)];clear HW;refine HC.mono ?_;rintro e w3 ⟨v,rfl,hO,k3⟩;obtain⟨ad,cap,rfl⟩:=own_shape hO;have hl:=(uh HL).1.1;have hgm:=(uh HL).1.2.1
 obtain⟨q,rfl,hcap,hq2⟩:∃q,ad=some ⟨q,0,none⟩/\m+1<=cap/\w2.heap.size<=q:=by
  rcases hO.2 with⟨e,e'⟩|⟨q,c',cur,e,h1',h2',h3',_⟩
  ·rw[hl]at e';omega
  ·obtain⟨rfl,rfl⟩:ad=some ⟨q,0,none⟩/\cap=c':=by simpa using e
   exact⟨q,rfl,by rw[hl]at h3';exact h3',h1'⟩
 have hcs:∀t,t<3->w3.cell? ⟨q,m*3+t,none⟩=(gcl g)[t]?:=λt ht=>by
  have e:=gcl_at G m g hgm t ht;have:=World.ownsRow.cellAt hO (m*3+t) (by rw[hl];omega);rw[this,e]
 obtain⟨b,hbq⟩:∃b:Addr,b=⟨q,0,none⟩:=⟨_,rfl⟩
 have d0:w3.cell? (b.add (m*3))=some (.bool g.1):=by rw[hbq,addr0];exact hcs 0 (by omega)
 have HBQ:Hid (b=⟨q,0,none⟩/\w2.heap.size<=q):=(⟨hbq,hq2⟩:_/\_)
 rw[<-hbq]at hO;rw[<-hbq];have hcI:(m:Int)+1<=(cap:Int):=by omega
 have hmI:(m:Int)+1<=1000:=by omega
 obtain⟨hR,k2,hs2,hbk⟩:=(uh HG)
 have hb3:=(k3.block w.heap.size zq (by omega)).trans hbk;have c0:w3.cell? ⟨w.heap.size,0,none⟩=some (.int .i64 35):=cell_of hb3 rfl;have c1:w3.cell? ⟨w.heap.size,1,none⟩=some (.int .i64 oa):=cell_of hb3 rfl;have c2:w3.cell? ⟨w.heap.size,2,none⟩=some (.int .i64 ob):=cell_of hb3 rfl;have k03:=k2.trans k3;have hs3:=k3.size;clear HG HC hbk;have HFI:=(uh HL).2;rcases hg:g.1 with _|_
 ·rw[hg]at d0;have HGT:=HFI.2 hg
  have HZ:Hid (Rg (λk=>w.heap.size<=k) w3 (.slice (some b) (m+1) cap) (gbh ⟨35,oa,ob,oc,od⟩ G)/\Kb 0 w w3):=by
   refine And.intro ?_ k03;rw[show gbh ⟨35,oa,ob,oc,od⟩ G=G from by unfold gbh;simp,<-hl];exact hO.rg.imp (λb _ hb=>by omega)
  rw[hl];have HGH:Hid (gfit ⟨35,oa,ob,oc,od⟩ G):=HGT;clear hO hR k2 hb3 k03 hs2 k3 hs3 HN hnI hcs hbq hq2 hcap hl hgm HGT HFI hg;go_wp2_with fail;refine bodyPost_ret (by simp[results,Tryz.results35,go_sem];rfl) rfl ?_;exact⟨_,_,_,by rw[dc_t (uh HGH)],λ_=>(uh HZ).1,(uh HZ).2⟩
 ·rw[hg]at d0;have hNF:¬gfit ⟨35,oa,ob,oc,od⟩ G:=λq=>by have:=HFI.1 q;rw[hg]at this;cases this
  rw[hl];have HNF:Hid (¬gfit ⟨35,oa,ob,oc,od⟩ G):=hNF;have HKK:Hid (Kb 0 w w3):=k03;clear hO hR k2 hb3 k03 hs2 k3 hs3 HN hnI hcs hbq hq2 hcap hl hgm hNF HFI hg;go_wp2_with fail;refine bodyPost_ret (by simp[results,Tryz.results35,go_sem];rfl) rfl ?_;exact⟨_,_,_,by rw[dc_f HNF],λq=>absurd q HNF,HKK⟩
theorem ch_oth(a:Iv)(w:World)(h1:Rg av w vg G)(hn:G.length<=50)(hop:a.o≠31/\a.o≠32/\a.o≠33/\a.o≠34/\a.o≠35/\a.o≠36):
  Calls Tryz.prog 35 #[.agg #[.int .i64 a.o,.int .i64 a.a,.int .i64 a.b,.int .i64 a.c,.int .i64 a.d],vg] w (ChA a G w):=by
 obtain⟨o,oa,ob,oc,od⟩:=a;dsimp only at hop;obtain⟨n1,n2,n3,n4,n5,n6⟩:=hop;obtain⟨pg,cg,rfl,hcg,r1⟩:=h1;obtain⟨w2,hw2⟩:∃w2,w2=w.alloc (.cells #[.int .i64 o,.int .i64 oa,.int .i64 ob,.int .i64 oc,.int .i64 od] 79):=⟨_,rfl⟩
 have k2:Kb 0 w w2:=by rw[hw2];exact kb_alloc _ _ _
 have hs2:w2.heap.size=w.heap.size+1:=by rw[hw2];exact World.size_alloc _ _
 have hbk:w2.heap[w.heap.size]? =some (.cells #[.int .i64 o,.int .i64 oa,.int .i64 ob,.int .i64 oc,.int .i64 od] 79 (0,0)):=by rw[hw2];exact alloc_new _ _ _
 have hR:Rg av w (.slice pg G.length cg) G:=⟨pg,cg,rfl,hcg,r1⟩
 have HC:=sp_guards w2 (hR.kb k2) (by omega);have hnI:(G.length:Int)<=1000:=by omega
 have HN:Hid (G.length<=1000):=(by omega:G.length<=1000)
 have HW:Hid (w2=_):=hw2;have HG:Hid (Rg av w (.slice pg G.length cg) G/\Kb 0 w w2/\w2.heap.size=w.heap.size+1/\w2.heap[w.heap.size]? =some (.cells #[.int .i64 o,.int .i64 oa,.int .i64 ob,.int .i64 oc,.int .i64 od] 79 (0,0))):=(⟨hR,k2,hs2,hbk⟩:_/\_)
 clear hw2 r1 hcg hR k2 hs2 hbk hn;go_enter Tryz.func35,Tryz.ntmps35;go_wp2_with fail;rw[<-(uh HW)];clear HW;refine HC.mono ?_;rintro e w3 ⟨v,rfl,hO,k3⟩;obtain⟨ad,cap,rfl⟩:=own_shape hO;obtain⟨hR,k2,hs2,hbk⟩:=(uh HG)
 have hb3:=(k3.block w.heap.size zq (by omega)).trans hbk;have c0:w3.cell? ⟨w.heap.size,0,none⟩=some (.int .i64 o):=cell_of hb3 rfl;have c1:w3.cell? ⟨w.heap.size,1,none⟩=some (.int .i64 oa):=cell_of hb3 rfl;have c2:w3.cell? ⟨w.heap.size,2,none⟩=some (.int .i64 ob):=cell_of hb3 rfl;have k03:=k2.trans k3;have hs3:=k3.size;clear HG HC hbk;have hGT:gfit ⟨o,oa,ob,oc,od⟩ G:=by unfold gfit;simp[n1,n2,n3,n4,n5,n6]
 have hBH:gbh ⟨o,oa,ob,oc,od⟩ G=G:=by unfold gbh;simp[n1,n2,n3,n4,n6]
 have HGH:Hid (gfit ⟨o,oa,ob,oc,od⟩ G):=hGT
 have HZ:Hid (Rg (λk=>w.heap.size<=k) w3 (.slice ad G.length cap) (gbh ⟨o,oa,ob,oc,od⟩ G)/\Kb 0 w w3):=by
  refine And.intro ?_ k03;rw[hBH];exact hO.rg.imp (λb _ hb=>by omega)
 have g1:=bne n1;have g2:=bne n2;have g3:=bne n3;have g4:=bne n4;have g5:=bne n5;have g6:=bne n6;clear hO hR k2 hb3 k03 hs2 k3 hs3 HN hnI n1 n2 n3 n4 n5 n6 hGT hBH;go_wp2_with fail;refine bodyPost_ret (by simp[results,Tryz.results35,go_sem];rfl) rfl ?_;exact⟨_,_,_,by rw[dc_t (uh HGH)],λ_=>(uh HZ).1,(uh HZ).2⟩
theorem sp_change(a:Iv)(w:World)(h1:Rg av w vg G)(hn:G.length<=50)(ha:a.o=31->0<=a.b)(hb:a.o=33\/a.o=34->0<=a.a):
  Calls Tryz.prog 35 #[.agg #[.int .i64 a.o,.int .i64 a.a,.int .i64 a.b,.int .i64 a.c,.int .i64 a.d],vg] w (ChA a G w):=by
 by_cases h:a.o=31
 ·exact ch_31 a w h1 hn h (ha h)
 have n31:=h;clear h;by_cases h:a.o=32
 ·exact ch_32 a w h1 hn h
 have n32:=h;clear h;by_cases h:a.o=33
 ·exact ch_33 a w h1 hn h (hb (.inl h))
 have n33:=h;clear h;by_cases h:a.o=34
 ·exact ch_34 a w h1 hn h (hb (.inr h))
 have n34:=h;clear h;by_cases h:a.o=35
 ·exact ch_35 a w h1 hn h
 have n35:=h;clear h;by_cases h:a.o=36
 ·exact ch_36 a w h1 hn h
 have n36:=h;clear h;exact ch_oth a w h1 hn ⟨n31,n32,n33,n34,n35,n36⟩
structure Kx (b:Nat) (W w':World):Prop where
 os:w'.os=W.os
 output:w'.output=W.output
 size:W.heap.size<=w'.heap.size
 block:∀k,k<W.heap.size->k≠b->w'.heap[k]? =W.heap[k]?
theorem Kx.trans(h:Kx b W w1)(k:Kx b w1 w2):Kx b W w2:=⟨k.os.trans h.os,k.output.trans h.output,Nat.le_trans h.size k.size,λi h1 h2=>(k.block i (Nat.lt_of_lt_of_le h1 h.size) h2).trans (h.block i h1 h2)⟩
theorem Kx.of_kb(h:Kb 0 W w'):Kx b W w':=⟨h.os,h.output,h.size,λk hk _=>h.block k zq hk⟩
theorem Kx.set(h:Kx b W w')(j:Nat)(v:Value):Kx b W (w'.setCell ⟨b,j,none⟩ v):=
 ⟨h.os,h.output,by simpa [World.setCell]using h.size,λk hk hb=>(Below.heap_setCell w' _ _ _ (by exact hb)).trans (h.block k hk hb)⟩
theorem Kx.kb(h:Kb 0 W w1)(k:Kx b w1 w2)(hb:W.heap.size<=b):Kb 0 W w2:=
 ⟨k.os.trans h.os,k.output.trans h.output,Nat.le_trans h.size k.size,λi _ hi=>(k.block i (Nat.lt_of_lt_of_le hi h.size) (by omega)).trans (h.block i zq hi)⟩
theorem OwI.setc{cap:Nat}(h:W.ownsRow base 3 1 (.slice (some ⟨q,0,none⟩) n cap) n (iv T))(j:Nat)(x:Int):(W.setCell ⟨q,j,none⟩ (.int .i64 x)).ownsRow base 3 1 (.slice (some ⟨q,0,none⟩) n cap) n (iv (T.set j x)):=by
 have:=World.ownsRow.stored h j (.int .i64 x);unfold iv;rw[List.map_set];exact this.1
theorem own_wr(h:OwI base W v T)(hk:k<T.length):∃(b:Addr) (q cap:Nat) (y:Int),v=.slice (some b) T.length cap/\b=⟨q,0,none⟩/\T.length<=cap/\base<=q/\v.ownBlock=some q/\W.cell? (b.add k)=some (.int .i64 y)/\(∀j,W.frozen? (b.add j)=false)/\∀W',Kb 0 W W'->∀x,OwI base (W'.setCell (b.add k) (.int .i64 x)) v (T.set k x)/\Kx q W (W'.setCell (b.add k) (.int .i64 x)):=by
 rcases h.2 with⟨_,e⟩|⟨q,cap,cur,rfl,h1,h2,h3,h4,h5,h6⟩
 ·omega
 ·obtain⟨y,hy⟩:∃y,T[k]? =some y:=⟨_,List.getElem?_eq_getElem hk⟩
  refine⟨⟨q,0,none⟩,q,cap,y,rfl,rfl,h3,h1,rfl,?_,λj=>?_,λW' kk x=>?_⟩
  ·refine World.ownsRow.cells h rfl k _ ?_;unfold iv;rw[List.getElem?_map,hy];rfl
  ·rw[addr0];exact World.ownsRow.frozenAt h j
  ·rw[addr0];refine⟨?_,(Kx.of_kb kk).set _ _⟩;have:=OwI.setc (OwI.kb h kk) k x;unfold OwI;rw[List.length_set];exact this
def WrA(a:Iv)(T:List Int)(base:Nat)(v:Value)(w:World)(e:Ending)(w':World):Prop:=e=.returned (.tuple #[])/\OwI base w' v (put a T)/\∀q,(v.ownBlock=some q->Kx q w w')/\(v.ownBlock=none->Kb 0 w w')
theorem tok_a(h:Tok np d a)(j:Nat)(hj:j<4):(rg np d (pcl (pr a.o.toNat j))).1<=fld a j/\fld a j<=(rg np d (pcl (pr a.o.toNat j))).2:=h.2.2 j hj
theorem wr_6(a:Iv)(w:World)(ht:Tok np d a)(hO:OwI base w v T)(hl:(T.length:Int)=d.g)(hg:d.g<=250)(hop:a.o=6):
  Calls Tryz.prog 36 #[.agg #[.int .i64 a.o,.int .i64 a.a,.int .i64 a.b,.int .i64 a.c,.int .i64 a.d],v] w (WrA a T base v w):=by
 obtain⟨o,oa,ob,oc,od⟩:=a;dsimp only at hop;subst hop;have hr:=tok_a ht 0 (by omega);have hr:0<=oa/\oa<=d.g-1:=hr;obtain⟨k,hk1,rfl⟩:∃k:Nat,0<=k/\oa=(k:Int):=⟨oa.toNat,by omega,by omega⟩
 obtain⟨b,q,cap,y,rfl,hbq,hcap,hbase,hob,c1,fz,hset⟩:=own_wr hO (k:=k) (by omega);have hput:put ⟨6,(k:Int),ob,oc,od⟩ T=T.set k 2:=rfl;have fz1:=fz k;have kI:(k:Int)<(T.length:Int):=by omega
 have lI:(T.length:Int)<=250:=by omega
 have cI:(T.length:Int)<=(cap:Int):=by omega
 have HS:Hid (∀W',Kb 0 w W'->OwI base (W'.setCell (b.add k) (.int .i64 2)) (.slice (some b) T.length cap) (put ⟨6,(k:Int),ob,oc,od⟩ T)/\Kx q w (W'.setCell (b.add k) (.int .i64 2))):=(λW' kk=>by rw[hput];exact hset W' kk 2:∀W',_)
 have HB:Hid ((Value.slice (some b) T.length cap).ownBlock=some q):=hob;have c1':∀o,(w.alloc o).cell? (b.add k)=some (.int .i64 y):=λo=>(kb_alloc 0 w o).cell c1
 have fz':∀o,(w.alloc o).frozen? (b.add k)=false:=λo=>by
  have hlt:b.block<w.heap.size:=by have:=lt_of_cell' c1;rw[add_block]at this;exact this
  exact(World.frozen?_of_block (by rw[add_block];exact(kb_alloc 0 w o).block _ zq hlt)).trans fz1
 clear hr ht hO hl hg hbq hcap hbase hob hset hput fz c1 fz1 hk1;go_enter Tryz.func36,Tryz.ntmps36;go_wp2_with fail;refine⟨rfl,.tuple #[],by simp[results,Tryz.results36],?_⟩;obtain⟨s1,s2⟩:=(uh HS) _ (kb_alloc 0 w _);exact⟨rfl,s1,λq'=>⟨λe=>by rw[(uh HB)]at e;cases e;exact s2,λe=>by rw[(uh HB)]at e;cases e⟩⟩
theorem wr_22(a:Iv)(w:World)(ht:Tok np d a)(hO:OwI base w v T)(hl:(T.length:Int)=d.g)(hg:d.g<=250)(hop:a.o=22):
  Calls Tryz.prog 36 #[.agg #[.int .i64 a.o,.int .i64 a.a,.int .i64 a.b,.int .i64 a.c,.int .i64 a.d],v] w (WrA a T base v w):=by
 obtain⟨o,oa,ob,oc,od⟩:=a;dsimp only at hop;subst hop;have hr:=tok_a ht 0 (by omega);have hr:0<=oa/\oa<=d.g-1:=hr;obtain⟨k,hk1,rfl⟩:∃k:Nat,0<=k/\oa=(k:Int):=⟨oa.toNat,by omega,by omega⟩
 obtain⟨b,q,cap,y,rfl,hbq,hcap,hbase,hob,c1,fz,hset⟩:=own_wr hO (k:=k) (by omega);have hput:put ⟨22,(k:Int),ob,oc,od⟩ T=T.set k 3:=rfl;have fz1:=fz k;have kI:(k:Int)<(T.length:Int):=by omega
 have lI:(T.length:Int)<=250:=by omega
 have cI:(T.length:Int)<=(cap:Int):=by omega
 have HS:Hid (∀W',Kb 0 w W'->OwI base (W'.setCell (b.add k) (.int .i64 3)) (.slice (some b) T.length cap) (put ⟨22,(k:Int),ob,oc,od⟩ T)/\Kx q w (W'.setCell (b.add k) (.int .i64 3))):=(λW' kk=>by rw[hput];exact hset W' kk 3:∀W',_)
 have HB:Hid ((Value.slice (some b) T.length cap).ownBlock=some q):=hob;have c1':∀o,(w.alloc o).cell? (b.add k)=some (.int .i64 y):=λo=>(kb_alloc 0 w o).cell c1
 have fz':∀o,(w.alloc o).frozen? (b.add k)=false:=λo=>by
  have hlt:b.block<w.heap.size:=by have:=lt_of_cell' c1;rw[add_block]at this;exact this
  exact(World.frozen?_of_block (by rw[add_block];exact(kb_alloc 0 w o).block _ zq hlt)).trans fz1
 clear hr ht hO hl hg hbq hcap hbase hob hset hput fz c1 fz1 hk1;go_enter Tryz.func36,Tryz.ntmps36;go_wp2_with fail;refine⟨rfl,.tuple #[],by simp[results,Tryz.results36],?_⟩;obtain⟨s1,s2⟩:=(uh HS) _ (kb_alloc 0 w _);exact⟨rfl,s1,λq'=>⟨λe=>by rw[(uh HB)]at e;cases e;exact s2,λe=>by rw[(uh HB)]at e;cases e⟩⟩
theorem wr_27(a:Iv)(w:World)(ht:Tok np d a)(hO:OwI base w v T)(hl:(T.length:Int)=d.g)(hg:d.g<=250)(hop:a.o=27):
  Calls Tryz.prog 36 #[.agg #[.int .i64 a.o,.int .i64 a.a,.int .i64 a.b,.int .i64 a.c,.int .i64 a.d],v] w (WrA a T base v w):=by
 obtain⟨o,oa,ob,oc,od⟩:=a;dsimp only at hop;subst hop;have hr:=tok_a ht 0 (by omega);have hr:0<=oa/\oa<=d.g-1:=hr;obtain⟨k,hk1,rfl⟩:∃k:Nat,0<=k/\oa=(k:Int):=⟨oa.toNat,by omega,by omega⟩
 obtain⟨b,q,cap,y,rfl,hbq,hcap,hbase,hob,c1,fz,hset⟩:=own_wr hO (k:=k) (by omega);have hput:put ⟨27,(k:Int),ob,oc,od⟩ T=T.set k 3:=rfl;have fz1:=fz k;have kI:(k:Int)<(T.length:Int):=by omega
 have lI:(T.length:Int)<=250:=by omega
 have cI:(T.length:Int)<=(cap:Int):=by omega
 have HS:Hid (∀W',Kb 0 w W'->OwI base (W'.setCell (b.add k) (.int .i64 3)) (.slice (some b) T.length cap) (put ⟨27,(k:Int),ob,oc,od⟩ T)/\Kx q w (W'.setCell (b.add k) (.int .i64 3))):=(λW' kk=>by rw[hput];exact hset W' kk 3:∀W',_)
 have HB:Hid ((Value.slice (some b) T.length cap).ownBlock=some q):=hob;have c1':∀o,(w.alloc o).cell? (b.add k)=some (.int .i64 y):=λo=>(kb_alloc 0 w o).cell c1
 have fz':∀o,(w.alloc o).frozen? (b.add k)=false:=λo=>by
  have hlt:b.block<w.heap.size:=by have:=lt_of_cell' c1;rw[add_block]at this;exact this
  exact(World.frozen?_of_block (by rw[add_block];exact(kb_alloc 0 w o).block _ zq hlt)).trans fz1
 clear hr ht hO hl hg hbq hcap hbase hob hset hput fz c1 fz1 hk1;go_enter Tryz.func36,Tryz.ntmps36;go_wp2_with fail;refine⟨rfl,.tuple #[],by simp[results,Tryz.results36],?_⟩;obtain⟨s1,s2⟩:=(uh HS) _ (kb_alloc 0 w _);exact⟨rfl,s1,λq'=>⟨λe=>by rw[(uh HB)]at e;cases e;exact s2,λe=>by rw[(uh HB)]at e;cases e⟩⟩
theorem wr_28(a:Iv)(w:World)(ht:Tok np d a)(hO:OwI base w v T)(hl:(T.length:Int)=d.g)(hg:d.g<=250)(hop:a.o=28):
  Calls Tryz.prog 36 #[.agg #[.int .i64 a.o,.int .i64 a.a,.int .i64 a.b,.int .i64 a.c,.int .i64 a.d],v] w (WrA a T base v w):=by
 obtain⟨o,oa,ob,oc,od⟩:=a;dsimp only at hop;subst hop;have hr:=tok_a ht 0 (by omega);have hr:0<=oa/\oa<=d.g-1:=hr;obtain⟨k,hk1,rfl⟩:∃k:Nat,0<=k/\oa=(k:Int):=⟨oa.toNat,by omega,by omega⟩
 obtain⟨b,q,cap,y,rfl,hbq,hcap,hbase,hob,c1,fz,hset⟩:=own_wr hO (k:=k) (by omega);have hput:put ⟨28,(k:Int),ob,oc,od⟩ T=T.set k 3:=rfl;have fz1:=fz k;have kI:(k:Int)<(T.length:Int):=by omega
 have lI:(T.length:Int)<=250:=by omega
 have cI:(T.length:Int)<=(cap:Int):=by omega
 have HS:Hid (∀W',Kb 0 w W'->OwI base (W'.setCell (b.add k) (.int .i64 3)) (.slice (some b) T.length cap) (put ⟨28,(k:Int),ob,oc,od⟩ T)/\Kx q w (W'.setCell (b.add k) (.int .i64 3))):=(λW' kk=>by rw[hput];exact hset W' kk 3:∀W',_)
 have HB:Hid ((Value.slice (some b) T.length cap).ownBlock=some q):=hob;have c1':∀o,(w.alloc o).cell? (b.add k)=some (.int .i64 y):=λo=>(kb_alloc 0 w o).cell c1
 have fz':∀o,(w.alloc o).frozen? (b.add k)=false:=λo=>by
  have hlt:b.block<w.heap.size:=by have:=lt_of_cell' c1;rw[add_block]at this;exact this
  exact(World.frozen?_of_block (by rw[add_block];exact(kb_alloc 0 w o).block _ zq hlt)).trans fz1
 clear hr ht hO hl hg hbq hcap hbase hob hset hput fz c1 fz1 hk1;go_enter Tryz.func36,Tryz.ntmps36;go_wp2_with fail;refine⟨rfl,.tuple #[],by simp[results,Tryz.results36],?_⟩;obtain⟨s1,s2⟩:=(uh HS) _ (kb_alloc 0 w _);exact⟨rfl,s1,λq'=>⟨λe=>by rw[(uh HB)]at e;cases e;exact s2,λe=>by rw[(uh HB)]at e;cases e⟩⟩
theorem wr_40(a:Iv)(w:World)(ht:Tok np d a)(hO:OwI base w v T)(hl:(T.length:Int)=d.g)(hg:d.g<=250)(hop:a.o=40):
  Calls Tryz.prog 36 #[.agg #[.int .i64 a.o,.int .i64 a.a,.int .i64 a.b,.int .i64 a.c,.int .i64 a.d],v] w (WrA a T base v w):=by
 obtain⟨o,oa,ob,oc,od⟩:=a;dsimp only at hop;subst hop;have hr:=tok_a ht 0 (by omega);have hr:0<=oa/\oa<=d.g-2:=hr;obtain⟨k,hk1,rfl⟩:∃k:Nat,1<=k/\oa=((k:Int)-1):=⟨(oa+1).toNat,by omega,by omega⟩
 obtain⟨b,q,cap,y,rfl,hbq,hcap,hbase,hob,c1,fz,hset⟩:=own_wr hO (k:=k) (by omega);have hput:put ⟨40,((k:Int)-1),ob,oc,od⟩ T=T.set k 1:=by show T.set ((k:Int)-1+1).toNat 1=T.set k 1;rw[show((k:Int)-1+1).toNat=k by omega]
 have fz1:=fz k;have kI:(k:Int)<(T.length:Int):=by omega
 have lI:(T.length:Int)<=250:=by omega
 have cI:(T.length:Int)<=(cap:Int):=by omega
 have HS:Hid (∀W',Kb 0 w W'->OwI base (W'.setCell (b.add k) (.int .i64 1)) (.slice (some b) T.length cap) (put ⟨40,((k:Int)-1),ob,oc,od⟩ T)/\Kx q w (W'.setCell (b.add k) (.int .i64 1))):=(λW' kk=>by rw[hput];exact hset W' kk 1:∀W',_)
 have HB:Hid ((Value.slice (some b) T.length cap).ownBlock=some q):=hob;have c1':∀o,(w.alloc o).cell? (b.add k)=some (.int .i64 y):=λo=>(kb_alloc 0 w o).cell c1
 have fz':∀o,(w.alloc o).frozen? (b.add k)=false:=λo=>by
  have hlt:b.block<w.heap.size:=by have:=lt_of_cell' c1;rw[add_block]at this;exact this
  exact(World.frozen?_of_block (by rw[add_block];exact(kb_alloc 0 w o).block _ zq hlt)).trans fz1
 clear hr ht hO hl hg hbq hcap hbase hob hset hput fz c1 fz1 hk1;go_enter Tryz.func36,Tryz.ntmps36;go_wp2_with fail;refine⟨rfl,.tuple #[],by simp[results,Tryz.results36],?_⟩;obtain⟨s1,s2⟩:=(uh HS) _ (kb_alloc 0 w _);exact⟨rfl,s1,λq'=>⟨λe=>by rw[(uh HB)]at e;cases e;exact s2,λe=>by rw[(uh HB)]at e;cases e⟩⟩
theorem wr_42(a:Iv)(w:World)(ht:Tok np d a)(hO:OwI base w v T)(hl:(T.length:Int)=d.g)(hg:d.g<=250)(hop:a.o=42):
  Calls Tryz.prog 36 #[.agg #[.int .i64 a.o,.int .i64 a.a,.int .i64 a.b,.int .i64 a.c,.int .i64 a.d],v] w (WrA a T base v w):=by
 obtain⟨o,oa,ob,oc,od⟩:=a;dsimp only at hop;subst hop;have hr:=tok_a ht 0 (by omega);have hr:0<=oa/\oa<=d.g-1:=hr;obtain⟨k,hk1,rfl⟩:∃k:Nat,0<=k/\oa=(k:Int):=⟨oa.toNat,by omega,by omega⟩
 obtain⟨b,q,cap,y,rfl,hbq,hcap,hbase,hob,c1,fz,hset⟩:=own_wr hO (k:=k) (by omega);have hput:put ⟨42,(k:Int),ob,oc,od⟩ T=T.set k 0:=rfl;have fz1:=fz k;have kI:(k:Int)<(T.length:Int):=by omega
 have lI:(T.length:Int)<=250:=by omega
 have cI:(T.length:Int)<=(cap:Int):=by omega
 have HS:Hid (∀W',Kb 0 w W'->OwI base (W'.setCell (b.add k) (.int .i64 0)) (.slice (some b) T.length cap) (put ⟨42,(k:Int),ob,oc,od⟩ T)/\Kx q w (W'.setCell (b.add k) (.int .i64 0))):=(λW' kk=>by rw[hput];exact hset W' kk 0:∀W',_)
 have HB:Hid ((Value.slice (some b) T.length cap).ownBlock=some q):=hob;have c1':∀o,(w.alloc o).cell? (b.add k)=some (.int .i64 y):=λo=>(kb_alloc 0 w o).cell c1
 have fz':∀o,(w.alloc o).frozen? (b.add k)=false:=λo=>by
  have hlt:b.block<w.heap.size:=by have:=lt_of_cell' c1;rw[add_block]at this;exact this
  exact(World.frozen?_of_block (by rw[add_block];exact(kb_alloc 0 w o).block _ zq hlt)).trans fz1
 clear hr ht hO hl hg hbq hcap hbase hob hset hput fz c1 fz1 hk1;go_enter Tryz.func36,Tryz.ntmps36;go_wp2_with fail;refine⟨rfl,.tuple #[],by simp[results,Tryz.results36],?_⟩;obtain⟨s1,s2⟩:=(uh HS) _ (kb_alloc 0 w _);exact⟨rfl,s1,λq'=>⟨λe=>by rw[(uh HB)]at e;cases e;exact s2,λe=>by rw[(uh HB)]at e;cases e⟩⟩
theorem wr_41(a:Iv)(w:World)(ht:Tok np d a)(hO:OwI base w v T)(hl:(T.length:Int)=d.g)(hg:d.g<=250)(hop:a.o=41):
  Calls Tryz.prog 36 #[.agg #[.int .i64 a.o,.int .i64 a.a,.int .i64 a.b,.int .i64 a.c,.int .i64 a.d],v] w (WrA a T base v w):=by
 obtain⟨o,oa,ob,oc,od⟩:=a;dsimp only at hop;subst hop;have hr:=tok_a ht 2 (by omega);have hr:0<=oc/\oc<=d.g-1:=hr;obtain⟨k,hk1,rfl⟩:∃k:Nat,0<=k/\oc=(k:Int):=⟨oc.toNat,by omega,by omega⟩
 obtain⟨b,q,cap,y,rfl,hbq,hcap,hbase,hob,c1,fz,hset⟩:=own_wr hO (k:=k) (by omega);have hput:put ⟨41,oa,ob,(k:Int),od⟩ T=T.set k 3:=rfl;have fz1:=fz k;have kI:(k:Int)<(T.length:Int):=by omega
 have lI:(T.length:Int)<=250:=by omega
 have cI:(T.length:Int)<=(cap:Int):=by omega
 have HS:Hid (∀W',Kb 0 w W'->OwI base (W'.setCell (b.add k) (.int .i64 3)) (.slice (some b) T.length cap) (put ⟨41,oa,ob,(k:Int),od⟩ T)/\Kx q w (W'.setCell (b.add k) (.int .i64 3))):=(λW' kk=>by rw[hput];exact hset W' kk 3:∀W',_)
 have HB:Hid ((Value.slice (some b) T.length cap).ownBlock=some q):=hob;have c1':∀o,(w.alloc o).cell? (b.add k)=some (.int .i64 y):=λo=>(kb_alloc 0 w o).cell c1
 have fz':∀o,(w.alloc o).frozen? (b.add k)=false:=λo=>by
  have hlt:b.block<w.heap.size:=by have:=lt_of_cell' c1;rw[add_block]at this;exact this
  exact(World.frozen?_of_block (by rw[add_block];exact(kb_alloc 0 w o).block _ zq hlt)).trans fz1
 clear hr ht hO hl hg hbq hcap hbase hob hset hput fz c1 fz1 hk1;go_enter Tryz.func36,Tryz.ntmps36;go_wp2_with fail;refine⟨rfl,.tuple #[],by simp[results,Tryz.results36],?_⟩;obtain⟨s1,s2⟩:=(uh HS) _ (kb_alloc 0 w _);exact⟨rfl,s1,λq'=>⟨λe=>by rw[(uh HB)]at e;cases e;exact s2,λe=>by rw[(uh HB)]at e;cases e⟩⟩
theorem put_def(n:Nat)(h1:1<=n)(h2:n<=42)(hn:n≠6/\n≠22/\n≠27/\n≠28/\n≠40/\n≠42/\n≠41)(oa ob oc od:Int)(T:List Int):put ⟨(n:Int),oa,ob,oc,od⟩ T=if mr n 0=1 then T.set oa.toNat 1 else T:=by
 rcases(by omega:n=1\/n=2\/n=3\/n=4\/n=5\/n=7\/n=8\/n=9\/n=10\/n=11\/n=12\/n=13\/n=14\/n=15\/n=16\/n=17\/n=18\/n=19\/n=20\/n=21\/n=23\/n=24\/n=25\/n=26\/n=29\/n=30\/n=31\/n=32\/n=33\/n=34\/n=35\/n=36\/n=37\/n=38\/n=39)with rfl|rfl|rfl|rfl|rfl|rfl|rfl|rfl|rfl|rfl|rfl|rfl|rfl|rfl|rfl|rfl|rfl|rfl|rfl|rfl|rfl|rfl|rfl|rfl|rfl|rfl|rfl|rfl|rfl|rfl|rfl|rfl|rfl|rfl|rfl<;>rfl
theorem into_def(n:Nat)(h1:1<=n)(h2:n<=42)(hn:n≠6/\n≠22/\n≠27/\n≠28/\n≠40/\n≠42/\n≠41)(hm:mr n 0=1):pcl (pr n 0)=12:=by
 rcases(by omega:n=1\/n=2\/n=3\/n=4\/n=5\/n=7\/n=8\/n=9\/n=10\/n=11\/n=12\/n=13\/n=14\/n=15\/n=16\/n=17\/n=18\/n=19\/n=20\/n=21\/n=23\/n=24\/n=25\/n=26\/n=29\/n=30\/n=31\/n=32\/n=33\/n=34\/n=35\/n=36\/n=37\/n=38\/n=39)with rfl|rfl|rfl|rfl|rfl|rfl|rfl|rfl|rfl|rfl|rfl|rfl|rfl|rfl|rfl|rfl|rfl|rfl|rfl|rfl|rfl|rfl|rfl|rfl|rfl|rfl|rfl|rfl|rfl|rfl|rfl|rfl|rfl|rfl|rfl<;>first|rfl|(exact absurd hm (by decide))
theorem mr0_lt(n:Nat)(h2:n<=42):mr n 0<22:=(cl_eq0 n (by omega) 0 (by omega)).2.2
theorem wr_def(a:Iv)(w:World)(ht:Tok np d a)(hO:OwI base w v T)(hl:(T.length:Int)=d.g)(hg:d.g<=250)(hop:a.o≠6/\a.o≠22/\a.o≠27/\a.o≠28/\a.o≠40/\a.o≠42/\a.o≠41):
  Calls Tryz.prog 36 #[.agg #[.int .i64 a.o,.int .i64 a.a,.int .i64 a.b,.int .i64 a.c,.int .i64 a.d],v] w (WrA a T base v w):=by
 obtain⟨o,oa,ob,oc,od⟩:=a;dsimp only at hop;obtain⟨n,rfl⟩:∃n:Nat,o=(n:Int):=⟨o.toNat,by have:=ht.1;dsimp only at this;omega⟩
 have h1:1<=n:=by have:=ht.1;dsimp only at this;omega
 have h2:n<=42:=by have:=ht.2.1;dsimp only at this;omega
 have hs:n≠6/\n≠22/\n≠27/\n≠28/\n≠40/\n≠42/\n≠41:=⟨λe=>hop.1 (by rw[e];rfl),λe=>hop.2.1 (by rw[e];rfl),λe=>hop.2.2.1 (by rw[e];rfl),λe=>hop.2.2.2.1 (by rw[e];rfl),λe=>hop.2.2.2.2.1 (by rw[e];rfl),λe=>hop.2.2.2.2.2.1 (by rw[e];rfl),λe=>hop.2.2.2.2.2.2 (by rw[e];rfl)⟩
 have hput:=put_def n h1 h2 hs oa ob oc od T;have HRo:=sp_roles n h1 h2;have g0:=bne (show(n:Int)≠6 by omega);have g1:=bne (show(n:Int)≠22 by omega);have g2:=bne (show(n:Int)≠27 by omega);have g3:=bne (show(n:Int)≠28 by omega);have g4:=bne (show(n:Int)≠40 by omega);have g5:=bne (show(n:Int)≠42 by omega);have g6:=bne (show(n:Int)≠41 by omega);obtain⟨m,hm⟩:∃m,m=mr n 0:=⟨_,rfl⟩
 have hmI:(m:Int)<22:=by have:=mr0_lt n h2;omega
 by_cases hm1:m=1
 ·have hcl:=into_def n h1 h2 hs (by rw[<-hm];exact hm1);have hr:=tok_a ht 0 (by omega)
  have hr:0<=oa/\oa<=d.g-1:=by
   have e:(⟨(n:Int),oa,ob,oc,od⟩:Iv).o.toNat=n:=by simp
   rw[e,hcl]at hr;exact hr
  obtain⟨k,rfl⟩:∃k:Nat,oa=(k:Int):=⟨oa.toNat,by omega⟩
  obtain⟨b,q,cap,y,rfl,hbq,hcap,hbase,hob,c1,fz,hset⟩:=own_wr hO (k:=k) (by omega);rw[if_pos (by rw[<-hm];exact hm1)]at hput;have fz1:=fz k;have kI:(k:Int)<(T.length:Int):=by omega
  have lI:(T.length:Int)<=250:=by omega
  have cI:(T.length:Int)<=(cap:Int):=by omega
  have HS:Hid (∀W',Kb 0 w W'->OwI base (W'.setCell (b.add k) (.int .i64 1)) (.slice (some b) T.length cap) (put ⟨(n:Int),(k:Int),ob,oc,od⟩ T)/\Kx q w (W'.setCell (b.add k) (.int .i64 1))):=(λW' kk=>by rw[hput];exact hset W' kk 1:∀W',_)
  have HB:Hid ((Value.slice (some b) T.length cap).ownBlock=some q):=hob;have c1':∀W',Kb 0 w W'->W'.cell? (b.add k)=some (.int .i64 y):=λW' kk=>kk.cell c1
  have fz':∀W',Kb 0 w W'->W'.frozen? (b.add k)=false:=λW' kk=>by
   have hlt:b.block<w.heap.size:=by have:=lt_of_cell' c1;rw[add_block]at this;exact this
   exact(World.frozen?_of_block (by rw[add_block];exact kk.block _ zq hlt)).trans fz1
  have HC:Hid ((∀W',Kb 0 w W'->W'.cell? (b.add k)=some (.int .i64 y))/\∀W',Kb 0 w W'->W'.frozen? (b.add k)=false):=(⟨c1',fz'⟩:_/\_)
  rw[<-hm,hm1]at HRo;simp only[show((1:Nat):Int)=1 from rfl]at HRo;clear hr ht hO hl hg hbq hcap hbase hob hset hput fz c1 fz1 c1' fz' hop hs hcl hm hm1 hmI h1 h2;go_enter Tryz.func36,Tryz.ntmps36;go_wp2_with (go_at_call 62;refine(HRo _).mono ?_;rintro e w3 ⟨rfl,hw3⟩;have kk:Kb 0 w w3:=(by rw[hw3];exact kb_alloc2 0 w _ _);have c9:=(uh HC).1 w3 kk;have f9:=(uh HC).2 w3 kk;clear kk;subst hw3);refine⟨rfl,.tuple #[],by simp[results,Tryz.results36],?_⟩;obtain⟨s1,s2⟩:=(uh HS) _ (kb_alloc2 0 w _ _);exact⟨rfl,s1,λq'=>⟨λe=>by rw[(uh HB)]at e;cases e;exact s2,λe=>by rw[(uh HB)]at e;cases e⟩⟩
 ·rw[if_neg (by rw[<-hm];exact hm1)]at hput;rw[<-hm]at HRo;have g9:=bne (show(m:Int)≠1 by omega);have HS:Hid (∀W',Kb 0 w W'->OwI base W' v (put ⟨(n:Int),oa,ob,oc,od⟩ T)):=(λW' kk=>by rw[hput];exact hO.kb kk:∀W',_)
  obtain⟨ad,cap,rfl⟩:=own_shape hO;clear ht hO hl hg hput hop hs hm hm1 hmI h1 h2;go_enter Tryz.func36,Tryz.ntmps36;go_wp2_with (go_at_call 62;refine(HRo _).mono ?_;rintro e w3 ⟨rfl,rfl⟩);refine⟨rfl,.tuple #[],by simp[results,Tryz.results36],?_⟩;exact⟨rfl,(uh HS) _ (kb_alloc2 0 w _ _),λq'=>⟨λ_=>Kx.of_kb (kb_alloc2 0 w _ _),λ_=>kb_alloc2 0 w _ _⟩⟩
theorem sp_write(a:Iv)(w:World)(ht:Tok np d a)(hO:OwI base w v T)(hl:(T.length:Int)=d.g)(hg:d.g<=250):
  Calls Tryz.prog 36 #[.agg #[.int .i64 a.o,.int .i64 a.a,.int .i64 a.b,.int .i64 a.c,.int .i64 a.d],v] w (WrA a T base v w):=by
 by_cases h:a.o=6
 ·exact wr_6 a w ht hO hl hg h
 have n6:=h;clear h;by_cases h:a.o=22
 ·exact wr_22 a w ht hO hl hg h
 have n22:=h;clear h;by_cases h:a.o=27
 ·exact wr_27 a w ht hO hl hg h
 have n27:=h;clear h;by_cases h:a.o=28
 ·exact wr_28 a w ht hO hl hg h
 have n28:=h;clear h;by_cases h:a.o=40
 ·exact wr_40 a w ht hO hl hg h
 have n40:=h;clear h;by_cases h:a.o=42
 ·exact wr_42 a w ht hO hl hg h
 have n42:=h;clear h;by_cases h:a.o=41
 ·exact wr_41 a w ht hO hl hg h
 have n41:=h;clear h;exact wr_def a w ht hO hl hg ⟨n6,n22,n27,n28,n40,n42,n41⟩
def Kv(vt:Value)(q:Nat)(W w':World):Prop:=Kx q W w'/\(vt.ownBlock=none->Kb 0 W w')
theorem Kv.trans(h:Kv vt q W w1)(k:Kv vt q w1 w2):Kv vt q W w2:=⟨h.1.trans k.1,λe=>(h.2 e).trans (k.2 e)⟩
theorem Kv.of_kb(h:Kb 0 W w'):Kv vt q W w':=⟨Kx.of_kb h,λ_=>h⟩
theorem Kv.size(h:Kv vt q W w'):W.heap.size<=w'.heap.size:=h.1.size
structure RM (base q:Nat) (vt:Value) (w4:World) (Tl Sl Kl:List Int) (vk vs:Value) (W:World):Prop where
 kx:Kv vt q w4 W
 ty:OwI base W vt Tl
 tk:OwI w4.heap.size W vk Kl
 st:OwI w4.heap.size W vs Sl
 ne:∀g,vk.ownBlock=some g->vs.ownBlock≠some g
 qq:∀g,vt.ownBlock=some g->g=q
 q4:q<w4.heap.size
theorem RM.start(h:OwI base w4 vt Tl)(hq:∀g,vt.ownBlock=some g->g=q)(h4:q<w4.heap.size):RM base q vt w4 Tl [] [] (.slice none 0 0) (.slice none 0 0) w4:=
 ⟨⟨⟨rfl,rfl,Nat.le_refl _,λ_ _ _=>rfl⟩,λ_=>Kb.refl _ _⟩,h,World.ownsRow_nil _ _ _ _,World.ownsRow_nil _ _ _ _,λg e=>(by cases e),hq,h4⟩
theorem RM.kb{W':World}(h:RM base q vt w4 Tl Sl Kl vk vs W)(k:Kb 0 W W'):RM base q vt w4 Tl Sl Kl vk vs W':=
 ⟨h.kx.trans (Kv.of_kb k),h.ty.kb k,h.tk.kb k,h.st.kb k,h.ne,h.qq,h.q4⟩
theorem RM.hi(h:RM base q vt w4 Tl Sl Kl vk vs W):(∀g,vk.ownBlock=some g->w4.heap.size<=g/\g<W.heap.size)/\∀g,vs.ownBlock=some g->w4.heap.size<=g/\g<W.heap.size:=⟨λg e=>h.tk.lt g e,λg e=>h.st.lt g e⟩
theorem RM.setT(h:RM base q vt w4 Tl Sl Kl vk vs W)(hk:k<Tl.length):∃(b:Addr) (cap:Nat) (y:Int),vt=.slice (some b) Tl.length cap/\Tl.length<=cap/\Tl[k]? =some y/\W.cell? (b.add k)=some (.int .i64 y)/\(∀j,W.frozen? (b.add j)=false)/\∀W',Kb 0 W W'->∀x,RM base q vt w4 (Tl.set k x) Sl Kl vk vs (W'.setCell (b.add k) (.int .i64 x)):=by
 obtain⟨b,q',cap,y,e1,e2,e3,e4,e5,e6,e7,e8⟩:=own_wr h.ty hk;have hq:=h.qq q' e5;subst hq;obtain⟨y',hy'⟩:∃y,Tl[k]? =some y:=⟨_,List.getElem?_eq_getElem hk⟩
 have hyy:y=y':=by
  obtain⟨pa,ca,f1,_,f2⟩:=h.ty.rz;obtain⟨a,g1,-,g2⟩:=f2 (by omega);have:b=a:=by rw[e1,g1]at f1;simpa using (Value.slice.inj f1).1
  have h9:=g2 k y' hy';rw[<-this,e6]at h9
  simpa using h9
 subst hyy;refine⟨b,cap,y,e1,e3,hy',e6,e7,λW' kk x=>?_⟩;obtain⟨s1,s2⟩:=e8 W' kk x;have h4:=h.q4;have hb:∀g,w4.heap.size<=g->g<W.heap.size->(W'.setCell (b.add k) (.int .i64 x)).heap[g]? =W.heap[g]?:=λg h1 h2=>s2.block g h2 (by omega);exact⟨⟨h.kx.1.trans s2,λe=>by rw[e5]at e;cases e⟩,s1,rowBlk' h.tk (λg e=>hb g (h.tk.lt g e).1 (h.tk.lt g e).2),rowBlk' h.st (λg e=>hb g (h.st.lt g e).1 (h.st.lt g e).2),h.ne,h.qq,h.q4⟩
theorem iv_len(L:List Int):(iv L).length=L.length:=by unfold iv;simp
theorem owi_app{L:List Int}(hn:n=L.length+1)(h:W.ownsRow base 3 1 v n (iv L++[.int .i64 x])):OwI base W v (L++[x]):=by
 unfold OwI;rw[iv_app,List.length_append,List.length_singleton,<-hn];exact h
theorem RM.appS(h:RM base q vt w4 Tl Sl Kl vk vs W)(hv:v'=.slice (some ⟨g,0,none⟩) n c')(hn:n=Sl.length+1)(h1:w7.ownsRow w4.heap.size 3 1 v' n (iv Sl++[.int .i64 x]))(h2:(W.alloc E).grownBy w7 vs.ownBlock)(h3:vs.ownBlock=some g\/g=H)(hH:W.heap.size<=H):RM base q vt w4 Tl (Sl++[x]) Kl vk v' w7:=by
 have hhi:=h.hi;have h4:=h.q4;have hbl:∀b,b<W.heap.size->some b≠vs.ownBlock->w7.heap[b]? =W.heap[b]?:=λb hb hne=>(h2.block b (by rw[World.size_alloc];omega) hne).trans ((kb_alloc 0 W E).block b zq hb);have hs:=h2.size;rw[World.size_alloc]at hs;have hx:=h.kx.1;have hvb:v'.ownBlock=some g:=by rw[hv];rfl
 refine⟨⟨⟨h2.os.trans hx.os,h2.output.trans hx.output,by have:=hx.size;omega,λk hk hkq=>(hbl k (by have:=hx.size;omega) (λe=>by have:=hhi.2 k e.symm;omega)).trans (hx.block k hk hkq)⟩,λe=>((h.kx.2 e).alloc E).gr h2 (λg eg=>(hhi.2 g eg).1)⟩,rowBlk' h.ty (λb e=>hbl b (by have:=h.qq b e;have:=hx.size;omega) (λe2=>by have:=h.qq b e;have:=hhi.2 b e2.symm;omega)),?_,?_,?_,h.qq,h4⟩
 ·exact rowBlk' h.tk (λb e=>hbl b (hhi.1 b e).2 (λe2=>h.ne b e e2.symm))
 ·exact owi_app hn h1
 ·intro b e e2;rw[hvb]at e2;have eg:g=b:=by simpa using e2
  subst eg;rcases h3 with h3|h3
  ·exact h.ne g e h3
  ·have:=(hhi.1 g e).2;omega
theorem RM.appK(h:RM base q vt w4 Tl Sl Kl vk vs W)(hv:v'=.slice (some ⟨g,0,none⟩) n c')(hn:n=Kl.length+1)(h1:w7.ownsRow w4.heap.size 3 1 v' n (iv Kl++[.int .i64 x]))(h2:(W.alloc E).grownBy w7 vk.ownBlock)(h3:vk.ownBlock=some g\/g=H)(hH:W.heap.size<=H):RM base q vt w4 Tl Sl (Kl++[x]) v' vs w7:=by
 have hhi:=h.hi;have h4:=h.q4;have hbl:∀b,b<W.heap.size->some b≠vk.ownBlock->w7.heap[b]? =W.heap[b]?:=λb hb hne=>(h2.block b (by rw[World.size_alloc];omega) hne).trans ((kb_alloc 0 W E).block b zq hb);have hs:=h2.size;rw[World.size_alloc]at hs;have hx:=h.kx.1;have hvb:v'.ownBlock=some g:=by rw[hv];rfl
 refine⟨⟨⟨h2.os.trans hx.os,h2.output.trans hx.output,by have:=hx.size;omega,λk hk hkq=>(hbl k (by have:=hx.size;omega) (λe=>by have:=hhi.1 k e.symm;omega)).trans (hx.block k hk hkq)⟩,λe=>((h.kx.2 e).alloc E).gr h2 (λg eg=>(hhi.1 g eg).1)⟩,rowBlk' h.ty (λb e=>hbl b (by have:=h.qq b e;have:=hx.size;omega) (λe2=>by have:=h.qq b e;have:=hhi.1 b e2.symm;omega)),?_,?_,?_,h.qq,h4⟩
 ·exact owi_app hn h1
 ·exact rowBlk' h.st (λb e=>hbl b (hhi.2 b e).2 (λe2=>h.ne b e2.symm e))
 ·intro b e e2;rw[hvb]at e;have eg:g=b:=by simpa using e
  subst eg;rcases h3 with h3|h3
  ·exact h.ne g h3 e2
  ·have:=(hhi.2 g e2).2;omega
def RcP(o j:Nat):Prop:=(wts (pr o j)=[]/\(wm (mr o j)).1=0)\/(wts (pr o j)=[(wm (mr o j)).1]/\opd (pr o j)=true/\(wm (mr o j)).2=true/\(wm (mr o j)).1≠0/\mr o j≠18/\mr o j≠19/\mr o j≠20/\pcl (pr o j)=14)\/(wts (pr o j)=[(wm (mr o j)).1]/\opd (pr o j)=false/\(wm (mr o j)).2=false/\(wm (mr o j)).1≠0/\mr o j≠18/\mr o j≠19/\mr o j≠20/\pcl (pr o j)=12)\/(pr o j=19/\mr o j=18)\/(pr o j=20/\mr o j=20)\/(pr o j=21/\mr o j=19/\o=40/\j=0)
instance (o j:Nat):Decidable (RcP o j):=by unfold RcP;infer_instance
theorem rc_all:∀o,o<43->∀j,j<4->RcP o j/\(o=40->j≠0->wts (pr o j)=[])/\(o=11->wts (pr o j)=[]):=by decide
theorem Kx.cellA(h:Kx q W w'){b:Addr}(hb:b.block≠q)(hc:W.cell? b=some v):w'.cell? b=some v:=
 (World.cell?_of_block (h.block b.block (lt_of_cell' hc) hb)).trans hc
theorem Kv.cellA(h:Kv vt q W w'){b:Addr}(hb:b.block≠q)(hc:W.cell? b=some v):w'.cell? b=some v:=h.1.cellA hb hc
def mk(a:Iv)(j:Nat)(K:List Int):List Int:=K++(if a.o=40/\1<=j then [a.a]else [])
theorem take1(L:List Int)(k:Nat)(y:Int):(L.drop k).take 1=[y]↔L[k]? =some y:=by
 rcases Nat.lt_or_ge k L.length with h|h
 ·rw[List.drop_eq_getElem_cons h,List.getElem?_eq_getElem h];simp only[List.take_succ_cons,List.take_zero,List.cons.injEq,and_true,Option.some.injEq]
 ·rw[List.drop_eq_nil_of_le h,List.getElem?_eq_none h];simp
theorem take2(L:List Int)(k:Nat)(y z:Int):(L.drop k).take 2=[y,z]↔L[k]? =some y/\L[k+1]? =some z:=by
 rcases Nat.lt_or_ge k L.length with h|h
 ·rw[List.drop_eq_getElem_cons h,List.getElem?_eq_getElem h,<-take1 L (k+1) z];simp only[List.take_succ_cons,List.cons.injEq,Option.some.injEq]
 ·rw[List.drop_eq_nil_of_le h,List.getElem?_eq_none h];simp
theorem take3(L:List Int)(k:Nat)(y z u:Int):(L.drop k).take 3=[y,z,u]↔L[k]? =some y/\L[k+1]? =some z/\L[k+2]? =some u:=by
 rcases Nat.lt_or_ge k L.length with h|h
 ·rw[List.drop_eq_getElem_cons h,List.getElem?_eq_getElem h,<-take2 L (k+1) z u];simp only[List.take_succ_cons,List.cons.injEq,Option.some.injEq]
 ·rw[List.drop_eq_nil_of_le h,List.getElem?_eq_none h];simp
theorem rdn_none {a:Iv} {T:List Int} {i:Nat} (h:rdn a T i=none):∀k,rdn a T (i+k)=none
 |0=>h
 |k+1=>by show(rdn a T (i+k)).bind _=none;rw[rdn_none h k];rfl
theorem rd_fail(hi:i<=4)(h:rdn a T i=none):rd a T=none:=by
 have:=rdn_none h (4-i)
 rwa [show i+(4-i)=4 by omega]at this
def RdP(F:Nat->Pd)(a:Iv)(T:List Int):Prop:=bx F a T/\∃s,rd a T=some s
def RdA(F:Nat->Pd)(a:Iv)(T:List Int)(base q:Nat)(vt:Value)(w:World)(e:Ending)(w':World):Prop:=∃vk,e=.returned (.tuple #[vk,.bool (dc (RdP F a T))])/\Kv vt q w w'/\∀s,RdP F a T->rd a T=some s->OwI base w' vt s.T/\Rz (λk=>w.heap.size<=k) w' vk (mk a 4 s.K)/\IsSl vk
theorem RdA.fail{w:World}(h:¬RdP F a T)(k:Kv vt q w w'):RdA F a T base q vt w (.returned (.tuple #[.slice none 0 0,.bool false])) w':=
 ⟨_,by rw[dc_f h],k,λs hp _=>absurd hp h⟩
theorem rdp_fail(hi:i<=4)(h:rdn a T i=none):¬RdP F a T:=λq=>by
 obtain⟨s,hs⟩:=q.2;rw[rd_fail hi h]at hs;cases hs
theorem rdn_next{j:Nat}{s:Rs}(h:rdn a T j=some s):rdn a T (j+1)=rd1 (pr a.o.toNat j) (fld a j) s:=by
 show(rdn a T j).bind _=_;rw[h];rfl
theorem rdn_len {a:Iv} {T:List Int}:∀(j:Nat) (s:Rs),rdn a T j=some s->s.T.length=T.length/\s.S.length<=j/\s.K.length<=j
 |0,s,h=>by cases h;exact⟨rfl,Nat.le_refl _,Nat.le_refl _⟩
 |j+1,s,h=>by
  cases hr:rdn a T j with
  |none=>
   have h':(rdn a T j).bind (rd1 (pr a.o.toNat j) (fld a j))=some s:=h;rw[hr]at h';cases h'
  |some s'=>
   obtain⟨i1,i2,i3⟩:=rdn_len j s' hr;rw[rdn_next hr]at h;unfold rd1 at h;split at h
   ·cases h;exact⟨i1,by omega,by omega⟩
   ·split at h
    ·cases h;split
     ·refine⟨by simpa using i1,by simpa using (by omega:s'.S.length<=j+1),by simp;omega⟩
     ·split
      ·exact⟨i1,by omega,by omega⟩
      ·exact⟨i1,by simp;omega,by simp;omega⟩
    ·cases h
