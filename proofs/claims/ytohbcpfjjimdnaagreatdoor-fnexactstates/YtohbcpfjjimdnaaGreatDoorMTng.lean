import Derived.Test.YtohbcpfjjimdnaaGreatDoorMTpj
set_option maxHeartbeats 64000000
namespace Go.Proofs.YtohbcpfjjimdnaaGreatDoor.Fo
open Go.ChangeShapes Go.WideShapes Go.ChangeAt Go.RowKit
set_option linter.unusedVariables false
set_option maxRecDepth 100000
theorem mw_kx{wE wq:World}{SB DB n QB:Nat}(h:MW wE SB DB n (λ_=>none) [] wE)(k:Kx QB wE wq)(hS:SB≠QB)(hD:DB≠QB):MW wq SB DB n (λ_=>none) [] wq:=by
 have h1:=h.sl;have h2:=h.dl;have bS:=k.block SB h1 hS;have bD:=k.block DB h2 hD;have hs:=k.size;refine⟨rfl,rfl,Nat.le_refl _,λ_ _ _ _=>rfl,λj hj=>(World.cell?_of_block bD).trans (h.du j hj),λj=>(World.frozen?_of_block bD).trans (h.dz j),λj=>(World.frozen?_of_block bS).trans (h.sz j),λj hj=>?_,by omega,by omega,h.ne⟩;have:=h.st j hj;have e:∀t,wq.cell? ⟨SB,t,none⟩=wE.cell? ⟨SB,t,none⟩:=λt=>World.cell?_of_block bS;exact⟨(e _).trans this.1,by rw[e];exact this.2.1,by rw[e];exact this.2.2⟩
def WkA(F:Nat->Pd)(d:Pd)(p:Nat)(w:World)(e:Ending)(w':World):Prop:=∃(v:Value) (c f n:Nat),e=.returned (.tuple #[v,.agg #[.int .i64 c,.int .i64 f,.int .i64 n]])/\WrR F d c n/\(c=0->f=0)/\(c≠0->f=p)/\Kb 0 w w'/\IsSl v/\(c=0->StR F d v w')
def Kr(F:Nat->Pd)(d:Pd)(p:Nat)(w:World)(K:Act->World->Prop):Prop:=∀a' w',bodyPost Tryz.prog Tryz.f15 (WkA F d p w) .ret a' w'->K a' w'
theorem thenF{c:Code}{K:Act->World->Prop}{Q:Exit->Act->World->Prop}{a:Act}{W:World}(h:c.wp Tryz.prog (Exit.then K λ_ _ _=>False) a W):c.wp Tryz.prog (Exit.then K Q) a W:=Code.wp_mono (λe a' w' h=>by cases e<;>first|exact h|exact h.elim) h
theorem infoS:(Tryz.prog.info? 58).map (λi=>(i.zero,i.size,i.bytes))=some (some (.agg #[.bool false,.slice none 0 0,.slice none 0 0]:Value),3,56):=by kernel_rfl
theorem sp_walk{A:Addr}{np ca p:Nat}{F:Nat->Pd}(w:World)(h0:∀i,i<np->ProC 0 w (A.add (i*9)) (F i))(hp:p<np)(hnp:np<=200)(hI:∀i,i<(F p).n->Iok np (F p) i)(hd:Hd p (F p))(hn0:0<(F p).n)(hnn:(F p).n<=6000)(hU:∀i,i<(F p).n->((F p).N i).o=11->(F ((F p).N i).b.toNat).u<=1048576/\Uok (F p) (F ((F p).N i).b.toNat)):
    Calls Tryz.prog 15 #[.agg #[.slice (some A) np ca],.int .i64 p] w (WkA F (F p) p w):=by
  obtain⟨d,hdF⟩:∃d,d=F p:=⟨_,rfl⟩
  rw[<-hdF]at hI hd hn0 hnn hU⊢;obtain⟨vu,vc,vn,vd,hcel,hvu,hvc,hvn,hvd⟩:=h0 p hp;rw[<-hdF]at hcel hvu hvc hvn hvd;obtain⟨a1,c1,rfl,-⟩:=hvu;obtain⟨a2,c2,rfl,-⟩:=hvc;have hvn2:=hvn;obtain⟨pI',cn,rfl,hvn3⟩:=hvn;obtain⟨pI,rfl,-,-,-⟩:=hvn3 (by omega);obtain⟨a3,c3,rfl,-⟩:=hvd;obtain⟨b1,hb1⟩:∃b1,b1=d.u:=⟨_,rfl⟩
  obtain⟨b2,hb2⟩:∃b2,b2=d.c:=⟨_,rfl⟩
  obtain⟨b3,hb3⟩:∃b3,b3=d.d:=⟨_,rfl⟩
  rw[<-hb1,<-hb2,<-hb3]at hcel;have HY:Hid ((∀i,i<np->ProC 0 w (A.add (i*9)) (F i))/\p<np/\np<=200/\d=F p/\(∀i,i<d.n->Iok np d i)/\Hd p d/\0<d.n/\d.n<=6000/\(∀i,i<d.n->(d.N i).o=11->(F (d.N i).b.toNat).u<=1048576/\Uok d (F (d.N i).b.toNat))/\RowI 0 w (.slice (some pI) d.n cn) d.n d.N):=(⟨h0,hp,hnp,hdF,hI,hd,hn0,hnn,hU,hvn2⟩:_/\_)
  obtain⟨d0,d1,d2,d3,d4,d5,d6,d7,d8⟩:=hcel.keep zq (kb_alloc2 0 w (.cells #[.slice (some A) np ca] 30) (.cells #[.int .i64 0,.int .i64 0,.int .i64 0] 39));have pI2:(p:Int)<(np:Int):=by omega
  have npI:(np:Int)<=200:=by omega
  have nI:(d.n:Int)<=6000:=by omega
  have n0I:(0:Int)<(d.n:Int):=by omega
  have g0I:0<=d.g:=hd.2.2.1.1;have g1I:d.g<=250:=hd.2.2.1.2;obtain⟨gn,hgn⟩:∃gn:Nat,d.g=(gn:Int):=⟨d.g.toNat,by omega⟩
  obtain⟨mn,hmn⟩:∃mn:Nat,d.m=(mn:Int):=⟨d.m.toNat,by have:=hd.2.2.2.1.1;omega⟩
  obtain⟨wB,hwB⟩:∃wB,wB=((w.alloc (.cells #[.slice (some A) np ca] 30)).alloc (.cells #[.int .i64 0,.int .i64 0,.int .i64 0] 39)).alloc (.cells #[.string d.x,.int .i64 d.l,.int .i64 d.m,.bool d.r,.int .i64 d.g,.slice a1 b1 c1,.slice a2 b2 c2,.slice (some pI) d.n cn,.slice a3 b3 c3] 52):=⟨_,rfl⟩
  obtain⟨t0',t1,t2,ts,kB⟩:=three_new w _ _ _ _ _ _ wB hwB;have hmk1:=run_make (P:=Tryz.prog) wB 26 58 Tryz.t58 (.agg #[.bool false,.slice none 0 0,.slice none 0 0]:Value) Tryz.underlying26 (by kernel_rfl) (by kernel_rfl) .i64 .i64 (d.n:Int) (d.n:Int) (by omega) (Int.le_refl _) (by show(56:Int)*(d.n:Int)<=_;omega) (by omega);rw[Int.toNat_natCast]at hmk1;obtain⟨wC,hwC⟩:∃wC,wC=wB.alloc (.cells (madeCells (.agg #[.bool false,.slice none 0 0,.slice none 0 0]:Value).cells (d.n*3)) 58):=⟨_,rfl⟩
  rw[show d.n*Tryz.t58.size=d.n*3 from rfl,<-hwC]at hmk1;have hmk2:=run_make (P:=Tryz.prog) wC 75 4 Tryz.t4 (.bool false) Tryz.underlying75 (by kernel_rfl) (by kernel_rfl) .i64 .i64 (d.n:Int) (d.n:Int) (by omega) (Int.le_refl _) (by show(1:Int)*(d.n:Int)<=_;omega) (by omega);rw[Int.toNat_natCast]at hmk2;obtain⟨wD,hwD⟩:∃wD,wD=wC.alloc (.cells (madeCells (.bool false:Value).cells (d.n*1)) 4):=⟨_,rfl⟩
  rw[show d.n*Tryz.t4.size=d.n*1 from rfl,<-hwD]at hmk2;have hmk3:=run_make (P:=Tryz.prog) wD 53 3 Tryz.t3 (.int .i64 0) Tryz.underlying53 (by kernel_rfl) (by kernel_rfl) .i64 .i64 (gn:Int) (gn:Int) (by omega) (Int.le_refl _) (by show(8:Int)*(gn:Int)<=_;omega) (by omega);rw[Int.toNat_natCast]at hmk3;obtain⟨wE,hwE⟩:∃wE,wE=wD.alloc (.cells (madeCells (.int .i64 0:Value).cells (gn*1)) 3):=⟨_,rfl⟩
  rw[show gn*Tryz.t3.size=gn*1 from rfl,<-hwE]at hmk3;obtain⟨SB,hSB⟩:∃SB,SB=wB.heap.size:=⟨_,rfl⟩
  obtain⟨DB,hDB⟩:∃DB,DB=wC.heap.size:=⟨_,rfl⟩
  obtain⟨QB,hQB⟩:∃QB,QB=wD.heap.size:=⟨_,rfl⟩
  have eC:wC.heap.size=wB.heap.size+1:=by rw[hwC];exact World.size_alloc _ _
  have eD:wD.heap.size=wC.heap.size+1:=by rw[hwD];exact World.size_alloc _ _
  have eE:wE.heap.size=wD.heap.size+1:=by rw[hwE];exact World.size_alloc _ _
  have kBC:Kb 0 wB wC:=by rw[hwC];exact kb_alloc _ _ _
  have kCD:Kb 0 wC wD:=by rw[hwD];exact kb_alloc _ _ _
  have kDE:Kb 0 wD wE:=by rw[hwE];exact kb_alloc _ _ _
  have kBE:=(kBC.trans kCD).trans kDE
  have hOE:OwI (DB+1) wE (.slice (some ⟨QB,0,none⟩) gn gn) (tf gn 0):=by
    have:=made_ints wD (DB+1) gn (by omega) (by omega);rw[<-hwE,<-hQB]at this;unfold OwI;rw[tf_len zq];exact this
  have hMW:∀W,Kb 0 wE W->MW wE SB DB d.n (λ_=>none) [] W:=λW kW=>by
    have kz:Kb 0 wC W:=(kCD.trans kDE).trans kW;have kz2:Kb 0 wD W:=kDE.trans kW;have hs:=kW.size;have bS:W.heap[SB]? =wC.heap[SB]?:=kz.block SB zq (by omega);have bD:W.heap[DB]? =wD.heap[DB]?:=kz2.block DB zq (by omega);refine⟨kW.os,kW.output,hs,λb hb _ _=>kW.block b zq hb,λj hj=>?_,λj=>?_,λj=>?_,λj hj=>?_,by omega,by omega,by omega⟩
    · rw[World.cell?_of_block bD,hwD,hDB];have:=made_at wC (.bool false) 1 4 d.n rfl j 0 hj (by omega);rw[show j*1+0=j by omega]at this;rw[this];simp[dc];rfl
    · rw[World.frozen?_of_block bD,hwD,hDB];exact made_fz _ _ _ _
    · rw[World.frozen?_of_block bS,hwC,hSB];exact made_fz _ _ _ _
    · have hm : ∀ t, t < 3 → W.cell? ⟨SB, j * 3 + t, none⟩ = (.agg #[.bool false, .slice none 0 0, .slice none 0 0] : Value).cells[t]? := fun t ht => by
        rw[World.cell?_of_block bS,hwC,hSB];exact made_at wB (.agg #[.bool false,.slice none 0 0,.slice none 0 0]:Value) 3 58 d.n rfl j t hj ht
      exact⟨hm 0 (by omega),hm 1 (by omega),hm 2 (by omega)⟩
  have tbE:∀W,Kb 0 wE W->W.heap[w.heap.size]? =some (.cells #[.slice (some A) np ca] 30 (0,0))/\W.heap[w.heap.size+1]? =some (.cells #[.int .i64 0,.int .i64 0,.int .i64 0] 39 (0,0))/\W.heap[w.heap.size+1+1]? =some (.cells #[.string d.x,.int .i64 d.l,.int .i64 d.m,.bool d.r,.int .i64 d.g,.slice a1 b1 c1,.slice a2 b2 c2,.slice (some pI) d.n cn,.slice a3 b3 c3] 52 (0,0)):=λW kW=>by
    have kz:=kBE.trans kW;exact⟨(kz.block _ zq (by omega)).trans t0',(kz.block _ zq (by omega)).trans t1,(kz.block _ zq (by omega)).trans t2⟩
  have HE:Hid ((∀W,Kb 0 wE W->MW wE SB DB d.n (λ_=>none) [] W)/\(∀W,Kb 0 wE W->W.heap[w.heap.size]? =some (.cells #[.slice (some A) np ca] 30 (0,0))/\W.heap[w.heap.size+1]? =some (.cells #[.int .i64 0,.int .i64 0,.int .i64 0] 39 (0,0))/\W.heap[w.heap.size+1+1]? =some (.cells #[.string d.x,.int .i64 d.l,.int .i64 d.m,.bool d.r,.int .i64 d.g,.slice a1 b1 c1,.slice a2 b2 c2,.slice (some pI) d.n cn,.slice a3 b3 c3] 52 (0,0)))/\OwI (DB+1) wE (.slice (some ⟨QB,0,none⟩) gn gn) (tf gn 0)/\Kb 0 w wE/\w.heap.size+2<SB/\SB<DB/\DB<QB/\QB<wE.heap.size/\d.g=(gn:Int)/\d.m=(mn:Int)):=(⟨hMW,tbE,hOE,kB.trans kBE,by omega,by omega,by omega,by omega,hgn,hmn⟩:_/\_)
  have z7B:wB.cell? ⟨w.heap.size+1+1,7,none⟩=some (.slice (some pI) d.n cn):=cell_of t2 rfl;have z7C:=kBC.cell z7B;have z4D:wD.cell? ⟨w.heap.size+1+1,4,none⟩=some (.int .i64 gn):=by rw[<-hgn];exact(kBC.trans kCD).cell (cell_of t2 rfl)
  have HWB:Hid (wB=_):=hwB;rw[<-hSB]at hmk1;rw[<-hDB]at hmk2;rw[<-hQB]at hmk3;clear hwB hwC hwD hwE hSB hDB hQB eC eD eE kBC kCD kDE kBE hOE hMW tbE t0' t1 t2 ts kB h0 hp hnp hdF hI hd hn0 hnn hU hvn2 hvn3 hcel hb1 hb2 hb3 hgn hmn;go_enter Tryz.func15,Tryz.ntmps15;go_upto_region 2 with fail;rw[<-(uh HWB)];clear HWB d0 d1 d2 d3 d4 d5 d6 d7 d8;go_upto_region 6 with fail;clear hmk1 hmk2 hmk3 z7B z7C z4D;obtain⟨bS,hbS⟩:∃bS:Addr,bS=⟨SB,0,none⟩:=⟨_,rfl⟩
  obtain⟨bD,hbD⟩:∃bD:Addr,bD=⟨DB,0,none⟩:=⟨_,rfl⟩
  obtain⟨bQ,hbQ⟩:∃bQ:Addr,bQ=⟨QB,0,none⟩:=⟨_,rfl⟩
  rw[<-hbS,<-hbD,<-hbQ];have HBB:Hid (bS=⟨SB,0,none⟩/\bD=⟨DB,0,none⟩/\bQ=⟨QB,0,none⟩):=(⟨hbS,hbD,hbQ⟩:_/\_)
  have HST:Hid (OwI (DB+1) wE (.slice (some bQ) gn gn) (tf gn 0)/\Kx QB wE wE):=(⟨by rw[hbQ];exact(uh HE).2.2.1,⟨rfl,rfl,Nat.le_refl _,λ_ _ _=>rfl⟩⟩:_/\_)
  clear hbS hbD hbQ
  go_loopw [10] (λs10 wr=>∃r:Nat,s10=.int .i64 r/\r<=mn/\Hid (OwI (DB+1) wr (.slice (some bQ) gn gn) (tf gn r)/\Kx QB wE wr)) (λs10 _=>mn-(intOf s10).toNat)
  case atStart=>exact⟨0,rfl,Nat.zero_le _,HST⟩
  case round=>
    obtain⟨r,rfl,hr,HX⟩:=hrel;clear HST;obtain⟨hO,kx⟩:=(uh HX)
    clear HX;obtain⟨hMW,tbE,-,kwE,l1,l2,l3,l4,hgn,hmn⟩:=(uh HE)
    obtain⟨hbS,hbD,hbQ⟩:=(uh HBB)
    have hd:=(uh HY).2.2.2.2.2.1;obtain⟨te1,te2,te3,te4⟩:=tf_end hd;rw[hgn,hmn]at te1 te2 te3 te4;rw[show((gn:Int)).toNat=gn from rfl,show((mn:Int)).toNat=mn from rfl]at te1 te2 te3 te4;have hbx:=(kx.block (w.heap.size+1+1) (by omega) (by omega)).trans (tbE wE (Kb.refl _ _)).2.2;have y2:wr.cell? ⟨w.heap.size+1+1,2,none⟩=some (.int .i64 mn):=by rw[<-hmn];exact cell_of hbx rfl
    have gI:(gn:Int)<=250:=by omega
    rcases Nat.lt_or_ge r mn with h|h
    · have rI:(r:Int)<(mn:Int):=by omega
      have rg:(r:Int)<(gn:Int):=by omega
      obtain⟨b',q',cq',y',e1,e2,e3,e4,e5,cy,fz,hset⟩:=own_wr hO (k:=r) (by rw[tf_len (by omega)];omega);have e6:=Value.slice.inj e1;obtain rfl:bQ=b':=by simpa using e6.1
      obtain rfl:QB=q':=by have:=e5;rw[hbQ]at this;simpa [Value.ownBlock]using this
      have fzr:=fz r;have HN:Hid (OwI (DB+1) (wr.setCell (bQ.add r) (.int .i64 1)) (.slice (some bQ) gn gn) (tf gn (r+1))/\Kx QB wE (wr.setCell (bQ.add r) (.int .i64 1))):=(⟨by rw[<-tf_next (by omega)];exact(hset wr (Kb.refl _ _) 1).1,kx.trans (hset wr (Kb.refl _ _) 1).2⟩:_/\_)
      clear hO kx hMW tbE kwE l1 l2 l3 l4 hgn hmn hbS hbD hbQ hd te1 te2 te3 te4 hbx e1 e2 e3 e4 e5 e6 hset fz;go_wp2_with fail;go_roundw
      case rel=>exact⟨r+1,by go_num,by omega,HN⟩
      case measure=>simp[intOf];omega
    · have rI:¬(r:Int)<(mn:Int):=by omega
      obtain rfl:r=mn:=by omega
      obtain⟨rb,hrb⟩:∃rb,rb=d.r:=⟨_,rfl⟩
      have HRB:Hid (rb=d.r):=hrb;have y3:wr.cell? ⟨w.heap.size+1+1,3,none⟩=some (.bool rb):=by rw[hrb];exact cell_of hbx rfl
      clear hrb;have HFI:Hid (OwI (DB+1) wr (.slice (some bQ) gn gn) (tf gn r)/\Kx QB wE wr/\(d.r=true->(tf gn r).set r 3=t0 d)/\(¬d.r=true->tf gn r=t0 d)/\(d.r=true->r<gn)/\bQ=⟨QB,0,none⟩/\r<=gn):=(⟨hO,kx,te1,te2,te4,hbQ,te3⟩:_/\_)
      clear hO kx hMW tbE kwE l1 l2 l3 l4 hgn hmn hbS hbD hbQ hd te1 te2 te3 te4 hbx h hr
      go_upto_if 46 with fail
      go_cut []from 47 to 50 (λwx=>Hid (OwI (DB+1) wx (.slice (some bQ) gn gn) (t0 d)/\Kx QB wE wx))
      case first=>
        obtain⟨hO,kx,te1,te2,te4,hbQ,te3⟩:=(uh HFI)
        cases rb with
        |false=>
          have hdr:d.r=false:=(uh HRB).symm;have HN:Hid (OwI (DB+1) wr (.slice (some bQ) gn gn) (t0 d)/\Kx QB wE wr):=(⟨by rw[<-te2 (by rw[hdr];simp)];exact hO,kx⟩:_/\_)
          clear hO kx te1 te2 te4 hbQ te3 HFI hdr HRB;go_wp2_with fail
          go_meet
          case rel=>exact HN
        |true=>
          have hdr:d.r=true:=(uh HRB).symm;have rg:(r:Int)<(gn:Int):=by have:=te4 hdr;omega
          obtain⟨b',q',cq',y',e1,e2,e3,e4,e5,cy,fz,hset⟩:=own_wr hO (k:=r) (by rw[tf_len te3];exact te4 hdr);have e6:=Value.slice.inj e1;obtain rfl:bQ=b':=by simpa using e6.1
          obtain rfl:QB=q':=by have:=e5;rw[hbQ]at this;simpa [Value.ownBlock]using this
          have fzr:=fz r;have HN:Hid (OwI (DB+1) (wr.setCell (bQ.add r) (.int .i64 3)) (.slice (some bQ) gn gn) (t0 d)/\Kx QB wE (wr.setCell (bQ.add r) (.int .i64 3))):=(⟨by rw[<-te1 hdr];exact(hset wr (Kb.refl _ _) 3).1,kx.trans (hset wr (Kb.refl _ _) 3).2⟩:_/\_)
          clear hO kx te1 te2 te4 hbQ te3 HFI hdr HRB e1 e2 e3 e4 e5 e6 hset fz;go_wp2_with fail
          go_meet
          case rel=>exact HN
      case rest=>
        rename World=>wq
        obtain⟨hOq,kxq⟩:=(show OwI (DB+1) wq (.slice (some bQ) gn gn) (t0 d)/\Kx QB wE wq from hcut)
        clear HFI y2 y3 hcut HRB;obtain⟨hMW,tbE,-,kwE,l1,l2,l3,l4,hgn,hmn⟩:=(uh HE)
        obtain⟨hbS,hbD,hbQ⟩:=(uh HBB)
        have hY:=(uh HY)
        have hMq:=mw_kx (hMW wE (Kb.refl _ _)) kxq (by omega) (by omega);have hs0:=hMq.st 0 hY.2.2.2.2.2.2.1;obtain⟨u1,hu1⟩:∃u,wq.cell? ⟨SB,0*3+1,none⟩=some u:=⟨_,hs0.2.1⟩
        obtain⟨u2,hu2⟩:∃u,wq.cell? ⟨SB,0*3+2,none⟩=some u:=⟨_,hs0.2.2⟩
        have q0:wq.cell? bS=some (.bool false):=by rw[hbS];exact hs0.1
        have q1:wq.cell? ⟨bS.block,bS.off+1,none⟩=some u1:=by rw[hbS];exact hu1
        have q2:wq.cell? ⟨bS.block,bS.off+2,none⟩=some u2:=by rw[hbS];exact hu2
        have qf:∀j,wq.frozen? ⟨bS.block,j,none⟩=false:=λj=>by rw[hbS];exact hMq.sz j
        have qf0:wq.frozen? bS=false:=by rw[hbS];exact hMq.sz 0
        have qz:bS.add 0=bS:=rfl;have q1':∀a,(wq.setCell bS a).cell? ⟨bS.block,bS.off+1,none⟩=some u1:=λa=>by rw[hbS];exact(set_ne _ SB 0 1 _ (by omega)).trans hu1
        have q2':∀a b,((wq.setCell bS a).setCell ⟨bS.block,bS.off+1,none⟩ b).cell? ⟨bS.block,bS.off+2,none⟩=some u2:=λa b=>by rw[hbS];exact(set_ne _ SB (0+1) (0+2) _ (by omega)).trans ((set_ne _ SB 0 (0+2) _ (by omega)).trans hu2)
        have qf1:∀a,(wq.setCell bS a).frozen? ⟨bS.block,bS.off+1,none⟩=false:=λa=>by rw[hbS];exact(set_fz _ SB 0 (0+1) _).trans (hMq.sz _)
        have qf2:∀a b,((wq.setCell bS a).setCell ⟨bS.block,bS.off+1,none⟩ b).frozen? ⟨bS.block,bS.off+2,none⟩=false:=λa b=>by rw[hbS];exact(set_fz _ SB (0+1) (0+2) _).trans ((set_fz _ SB 0 (0+2) _).trans (hMq.sz _))
        obtain⟨w1,hw1⟩:∃w1,w1=set3 wq SB 0 (.slice (some bQ) gn gn) (.slice none 0 0):=⟨_,rfl⟩
        have hlt:(t0 d).length=gn:=by have:=t0_len hY.2.2.2.2.2.1;omega
        have hM1:MW wq SB DB d.n (upd (λ_=>none) 0 (t0 d,[])) [] w1:=by
          rw[hw1];refine hMq.new hY.2.2.2.2.2.2.1 ?_ ?_
          · have:=hOq;have hz:=this.rz;exact hz.imp (λb _ hb=>⟨by omega,by omega⟩)
          · exact⟨none,0,rfl,Nat.le_refl _,λh=>by simp at h⟩
        have HW1:Hid (w1=((wq.setCell bS (.bool true)).setCell ⟨bS.block,bS.off+1,none⟩ (.slice (some bQ) gn gn)).setCell ⟨bS.block,bS.off+2,none⟩ (.slice none 0 0)):=by rw[hw1,hbS];rfl
        have p0:w1.cell? bD=some (.bool false):=by
          rw[hbD];have:=hM1.du 0 hY.2.2.2.2.2.2.1;rw[dc_f (by simp)]at this;exact this
        have p1:w1.frozen? bD=false:=by rw[hbD];exact hM1.dz 0
        have pz:bD.add 0=bD:=rfl;obtain⟨w2,hw2⟩:∃w2,w2=w1.setCell bD (.bool true):=⟨_,rfl⟩
        have hM2:MW wq SB DB d.n (upd (λ_=>none) 0 (t0 d,[])) [0] w2:=by
          rw[hw2,hbD];refine hM1.due hY.2.2.2.2.2.2.1 (λj _=>?_);by_cases e:j=0
          · rw[if_pos e];exact dc_t (by simp[e])
          · rw[if_neg e,dc_f (by simp[e]),dc_f (by simp)]
        have HW2:Hid (w2=w1.setCell bD (.bool true)):=hw2;have HM2:Hid (MW wq SB DB d.n (upd (λ_=>none) 0 (t0 d,[])) [0] w2):=hM2
        have HQ:Hid ((∀W:World,(∀b,b<wq.heap.size->b≠SB->b≠DB->W.heap[b]? =wq.heap[b]?)->W.heap[w.heap.size]? =some (.cells #[.slice (some A) np ca] 30 (0,0))/\W.heap[w.heap.size+1]? =some (.cells #[.int .i64 0,.int .i64 0,.int .i64 0] 39 (0,0))/\W.heap[w.heap.size+1+1]? =some (.cells #[.string d.x,.int .i64 d.l,.int .i64 d.m,.bool d.r,.int .i64 d.g,.slice a1 b1 c1,.slice a2 b2 c2,.slice (some pI) d.n cn,.slice a3 b3 c3] 52 (0,0)))/\Kb 0 w wq/\w.heap.size+2<SB/\SB<DB/\DB<wq.heap.size/\d.g=(gn:Int)):=by
          have hsq:=kxq.size;refine⟨λW hW=>?_,Kx.kb kwE kxq (by omega),l1,l2,by omega,hgn⟩;have e:∀b,b<wE.heap.size->b≠SB->b≠DB->b≠QB->W.heap[b]? =wE.heap[b]?:=λb h1 h2 h3 h4=>(hW b (by omega) h2 h3).trans (kxq.block b h1 h4);obtain⟨x1,x2,x3⟩:=tbE wE (Kb.refl _ _);exact⟨(e _ (by omega) (by omega) (by omega) (by omega)).trans x1,(e _ (by omega) (by omega) (by omega) (by omega)).trans x2,(e _ (by omega) (by omega) (by omega) (by omega)).trans x3⟩
        clear hMW tbE kwE l1 l2 l3 l4 hgn hmn hbS hbD hbQ hY hMq hs0 hu1 hu2 hw1 hlt hM1 hw2 hM2 hOq kxq HE;go_upto_region 12 with fail;rw[<-(uh HW1)];clear HW1 q0 q1 q2 qf qf0 qz q1' q2' qf1 qf2;go_wp2_with fail;rw[<-(uh HW2)];clear HW2 p0 p1 pz;have HST0:Hid (∃(k:Nat) (M:Nat->Option Sv) (D:List Nat),wit F d k=.ok M D/\MW wq SB DB d.n M D w2):=⟨0,_,_,rfl,HM2⟩
        clear HM2
        go_loopw [] (λwr=>Hid (∃(k:Nat) (M:Nat->Option Sv) (D:List Nat),wit F d k=.ok M D/\MW wq SB DB d.n M D wr)) (λwr=>2*fre wr SB d.n+onD wr DB d.n)
        case atStart=>exact HST0
        case round=>
          clear HST0
          rename World=>wr
          obtain⟨k,M,D,hk,hM⟩:=(show ∃(k:Nat) (M:Nat->Option Sv) (D:List Nat),wit F d k=.ok M D/\MW wq SB DB d.n M D wr from hrel)
          clear hrel;have hY:=(uh HY)
          have hinv:Inv d M D:=by
            have:=wit_ok (F:=F) hY.2.2.2.2.1 hY.2.2.2.2.2.2.1 hY.2.2.2.2.2.1 k;rw[hk]at this;exact this
          obtain⟨hbS,hbD,-⟩:=(uh HBB)
          have HDU:Hid (∀j,j<d.n->wr.cell? (bD.add j)=some (.bool (dc (j ∈ D)))):=(λj hj=>by rw[hbD,addr0];exact hM.du j hj:∀j,_)
          have HR0:Hid (wit F d k=.ok M D/\MW wq SB DB d.n M D wr/\Inv d M D):=(⟨hk,hM,hinv⟩:_/\_)
          clear hk hM hinv hbS hbD hY;go_wp2_with fail
          go_loopw [11] (λs11 wz=>∃j:Nat,s11=.int .i64 j/\j<=d.n/\wz=wr/\Hid (∀i,i<j->i ∉ D)) (λs11 _=>d.n-(intOf s11).toNat)
          case atStart=>exact⟨0,rfl,Nat.zero_le _,rfl,(λi hi=>by omega:∀i,_)⟩
          case round=>
            obtain⟨j,rfl,hj,rfl,HJ⟩:=hrel
            rename World=>wr
            rcases Nat.lt_or_ge j d.n with h|h
            · have jI:(j:Int)<(d.n:Int):=by omega
              have cj:=(uh HDU) j h;by_cases hin:j ∈ D
              rotate_left
              · rw[dc_f hin]at cj
                have HN:Hid (∀i,i<j+1->i ∉ D):=(λi hi=>by
                  by_cases e:i=j
                  · subst e;exact hin
                  · exact(uh HJ) i (by omega):∀i,_)
                clear HJ hin;go_wp2_with fail;go_roundw
                case rel=>exact⟨j+1,by go_num,by omega,by simp,HN⟩
                case measure=>simp[intOf];omega
              · rw[dc_t hin]at cj;have gj:=bne (show(j:Int)≠(d.n:Int) by omega);obtain⟨hk,hM,hinv⟩:=(uh HR0)
                obtain⟨D',hD'⟩:∃D',D=j::D':=by
                  cases D with
                  |nil=>cases hin
                  |cons x D'=>
                    have hx:x=j:=by
                      rcases List.mem_cons.1 hin with q|q
                      · exact q.symm
                      · have h1:=(List.pairwise_cons.1 hinv.so).1 j q;exact absurd (List.mem_cons_self ..) ((uh HJ) x h1)
                    exact⟨D',by rw[hx]⟩
                clear HR0 HDU HJ hin;subst hD';obtain⟨hbS,hbD,-⟩:=(uh HBB)
                subst hbS hbD;obtain⟨h0,hp,hnp,hdF,hI,hd,hn0,hnn,hU,hrowI⟩:=(uh HY)
                obtain⟨hq1,hq2,hq3,hq4,hq5,hq6⟩:=(uh HQ)
                have hjD:j ∉ D':=λq=>by have:=(List.pairwise_cons.1 hinv.so).1 j q;omega
                rw[addr0]at cj;have cfz:wr.frozen? ⟨DB,j,none⟩=false:=hM.dz j
                have hM1:MW wq SB DB d.n M D' (wr.setCell ⟨DB,j,none⟩ (.bool false)):=hM.due h (λy _=>by
                  by_cases e:y=j
                  · rw[if_pos e,e];exact dc_f hjD
                  · rw[if_neg e];by_cases q:y ∈ D'
                    · rw[dc_t q,dc_t (List.mem_cons_of_mem _ q)]
                    · rw[dc_f q,dc_f (λz=>by rcases List.mem_cons.1 z with z|z;exact e z;exact q z)])
                obtain⟨w1,hw1⟩:∃w1,w1=wr.setCell ⟨DB,j,none⟩ (.bool false):=⟨_,rfl⟩
                rw[<-hw1]at hM1;have hme1:2*fre wr SB d.n+onD wr DB d.n=mu d.n (.ok M (j::D')):=by rw[hM.meas.1,hM.meas.2];rfl
                obtain⟨tb0,tb1,tb2⟩:=hq1 w1 hM1.block;have kw1:Kb 0 w w1:=hM1.old hq2 (by omega) (by omega);have hs1:=hM1.size;have hS1:=hM1.sl;have hD1:=hM1.dl;obtain⟨-,hmn⟩:=hinv.du j (List.mem_cons_self ..)
                obtain⟨s,hm⟩:∃s,M j=some s:=by
                  cases hm:M j with
                  |none=>exact absurd hm hmn
                  |some s=>exact⟨s,rfl⟩
                have hinv':Inv d M D':=⟨(List.pairwise_cons.1 hinv.so).2,λy hy=>hinv.du y (List.mem_cons_of_mem _ hy),hinv.st⟩
                obtain⟨hsl,hsg⟩:=(hinv.st j s hm).2;have hst:=hM1.st j h;rw[hm]at hst;obtain⟨q0,vt,vg,q1,q2,r1,r2⟩:=hst;have hok:=hI j h;have hg0:=hd.2.2.1.1;have hg1:=hd.2.2.1.2;obtain⟨a,ha⟩:∃a,a=d.N j:=⟨_,rfl⟩
                have hTok:Tok np d a:=by rw[ha];exact hok.1
                obtain⟨pI',cn',eI,hrw⟩:=id hrowI;obtain⟨rfl,-,rfl⟩:=Value.slice.inj eI;obtain⟨pI2,eI2,-,-,hrw⟩:=hrw hn0;obtain rfl:pI=pI2:=by simpa using eI2
                obtain⟨z0,z1,z2,z3,z4⟩:=(hrw j h).keep zq kw1;rw[<-ha]at z0 z1 z2 z3 z4;have c7:w1.cell? ⟨w.heap.size+1+1,7,none⟩=some (.slice (some pI) d.n cn):=cell_of tb2 rfl
                have hwk:wit F d (k+1)=nxt F d M D' j s:=by
                  show wst F d (wit F d k)=_;rw[hk];show(match M j with|none=>St.ok M (j::D')|some s=>nxt F d M D' j s)=_;rw[hm]
                obtain⟨p1,t1,rfl,-,-⟩:=id r1;obtain⟨p2,t2,rfl,-,-⟩:=id r2;obtain⟨w2,hw2⟩:∃w2,w2=w1.alloc (.cells #[.int .i64 a.o,.int .i64 a.a,.int .i64 a.b,.int .i64 a.c,.int .i64 a.d] 79):=⟨_,rfl⟩
                have k12:Kb 0 w1 w2:=by rw[hw2];exact kb_alloc _ _ _
                have bI2:InB w1.heap.size a w2:=by rw[hw2];exact alloc_new _ _ _
                have z2s:w2.heap.size=w1.heap.size+1:=by rw[hw2];exact World.size_alloc _ _
                have y1:=k12.cell q1;have HCP:=sp_copy w2 (r1.kb k12) (by omega);have HW1:Hid (w1=wr.setCell ⟨DB,j,none⟩ (.bool false)):=hw1;have HW2:Hid (w2=w1.alloc (.cells #[.int .i64 a.o,.int .i64 a.a,.int .i64 a.b,.int .i64 a.c,.int .i64 a.d] 79)):=hw2;have HKZ:Hid (∀W,Kb 0 w1 W->Kb 0 w W/\W.heap[w.heap.size+1]? =some (.cells #[.int .i64 0,.int .i64 0,.int .i64 0] 39 (0,0))):=(λW kW=>⟨kw1.trans kW,(kW.block _ zq (Array.getElem?_eq_some_iff.1 tb1).1).trans tb1⟩:∀W,_)
                have HC0:Hid (∀W,Kb 0 w1 W->W.cell? ⟨w.heap.size,0,none⟩=some (.slice (some A) np ca)):=(λW kW=>kW.cell (cell_of tb0 rfl):∀W,_)
                have HPC:Hid (∀W,Kb 0 w1 W->W.heap[w.heap.size+1+1]? =some (.cells #[.string d.x,.int .i64 d.l,.int .i64 d.m,.bool d.r,.int .i64 d.g,.slice a1 b1 c1,.slice a2 b2 c2,.slice (some pI) d.n cn,.slice a3 b3 c3] 52 (0,0))):=(λW kW=>(kW.block _ zq (Array.getElem?_eq_some_iff.1 tb2).1).trans tb2:∀W,_)
                have HSS:Hid (∀W,Kb 0 w1 W->W.cell? ⟨SB,j*3,none⟩=some (.bool true)/\W.cell? ⟨SB,j*3+1,none⟩=some (.slice p1 s.1.length t1)/\W.cell? ⟨SB,j*3+2,none⟩=some (.slice p2 s.2.length t2)):=(λW kW=>⟨kW.cell q0,kW.cell q1,kW.cell q2⟩:∀W,_)
                have HST:Hid (MW wq SB DB d.n M D' w1/\Inv d M D'/\j<d.n/\M j=some s/\a=d.N j/\Rz (Av SB DB) w1 (.slice p1 s.1.length t1) s.1/\Rg (Av SB DB) w1 (.slice p2 s.2.length t2) s.2/\Kb 0 w w1/\wit F d (k+1)=nxt F d M D' j s/\2*fre wr SB d.n+onD wr DB d.n=mu d.n (.ok M (j::D'))/\onL (j::D') d.n=onL D' d.n+1):=(⟨hM1,hinv',h,hm,ha,r1,r2,kw1,hwk,hme1,onL_cons h hinv.so⟩:_/\_)
                have HMG0:Hid (∀w3 v,Kb 0 w2 w3->OwI w2.heap.size w3 v s.1->Mg a s.1 w1 w1.heap.size v w3):=(λw3 v k3 hv=>⟨k12.trans k3,(k3.block _ zq (by omega)).trans bI2,ownsRow_mono2 hv (by omega),own_ne hv (.inl (by omega))⟩:∀w3 v,_)
                have HRD:Hid (∀w3 v q,Mg a s.1 w1 w1.heap.size v w3->(∀g,v.ownBlock=some g->g=q)->w1.heap.size<=q->q<w3.heap.size->Calls Tryz.prog 34 #[.agg #[.slice (some A) np ca],.int .i64 p,.agg #[.int .i64 a.o,.int .i64 a.a,.int .i64 a.b,.int .i64 a.c,.int .i64 a.d],v] w3 (RdA F a s.1 w1.heap.size q v w3)):=(λw3 v q hg hqq hq0 hql=>sp_read a w w3 h0 (kw1.trans hg.k) (Nat.le_trans kw1.size hq0) hql hqq hg.t hTok hsl hg1 (by omega) (λho=>by have:=hU j h (by rw[<-ha];exact ho);rw[<-ha]at this;exact this):∀w3 v q,_)
                clear hk hM hinv hjD hM1 hw1 hme1 tb0 tb1 tb2 kw1 hs1 hS1 hD1 hmn hm hinv' hsl hsg r1 r2 hok ha hTok hrowI eI eI2 hrw hwk hw2 k12 bI2 z2s h0 hp hnp hdF hI hd hn0 hnn hU hq1 hq2 hq3 hq4 hq5 hq6 q0 q1 q2 hg0 hg1;go_upto_region 25 with fail;rw[<-(uh HW1)];clear HW1 cj cfz;go_upto_region 26 with fail;rw[<-(uh HW2)];clear HW2 z0 z1 z2 z3 z4 c7;go_upto_region 27 with(go_at_call 33;refine HCP.mono ?_;rintro e w3 ⟨v14,rfl,ho3,k3⟩;have hmg3:=(uh HMG0) w3 v14 k3 ho3;clear HCP ho3 k3 HMG0 y1);obtain⟨pv,cv,hpv⟩:=own_shape hmg3.t;subst hpv
                obtain⟨q,hqq,hq0,hql⟩:∃q,(∀g,(Value.slice pv s.1.length cv).ownBlock=some g->g=q)/\w1.heap.size<=q/\q<w3.heap.size:=by
                  have hIl:=(Array.getElem?_eq_some_iff.1 hmg3.i).1;cases hv:(Value.slice pv s.1.length cv).ownBlock with
                  |none=>exact⟨w1.heap.size,λg e=>(by cases e),Nat.le_refl _,hIl⟩
                  |some g=>
                    have:=hmg3.t.lt g hv;exact⟨g,λg' e=>(by simpa using e.symm),this.1,this.2⟩
                have HR3:=(uh HRD) w3 (.slice pv s.1.length cv) q hmg3 hqq hq0 hql;have hi3:w3.heap[w1.heap.size]? =_:=hmg3.i;have x0:w3.cell? ⟨w1.heap.size,0,none⟩=some (.int .i64 a.o):=cell_of hi3 rfl;have x1:w3.cell? ⟨w1.heap.size,1,none⟩=some (.int .i64 a.a):=cell_of hi3 rfl;have x2:w3.cell? ⟨w1.heap.size,2,none⟩=some (.int .i64 a.b):=cell_of hi3 rfl;have x3:w3.cell? ⟨w1.heap.size,3,none⟩=some (.int .i64 a.c):=cell_of hi3 rfl;have x4:w3.cell? ⟨w1.heap.size,4,none⟩=some (.int .i64 a.d):=cell_of hi3 rfl;have y0:=(uh HC0) w3 hmg3.k;have hvw:∀g,(Value.slice pv s.1.length cv).ownBlock=some g->w1.heap.size<=g:=λg e=>(hmg3.t.lt g e).1;have HQQ:Hid ((∀g,(Value.slice pv s.1.length cv).ownBlock=some g->g=q)/\w1.heap.size<=q/\q<w3.heap.size/\Mg a s.1 w1 w1.heap.size (.slice pv s.1.length cv) w3):=(⟨hqq,hq0,hql,hmg3⟩:_/\_)
                obtain⟨hM1,hinv',hjn,hm,ha,r1,r2,kw1,hwk,hme1,hon⟩:=(uh HST)
                have h10:Hid (¬RdP F a s.1->WrR F d 10 j):=(λhn=>⟨k+1,.inl (hwk.trans (nxt_b (l:=[]) (by
                  rw[<-ha];by_cases hb:bx F a s.1
                  · exact stp_10b hb (by
                      cases hr:rd a s.1 with
                      |none=>rfl
                      |some r=>exact absurd ⟨hb,r,hr⟩ hn)
                  · exact stp_10a hb) (by decide)))⟩:_->_)
                clear hqq hq0 hql hmg3 hi3 hM1 hinv' hjn hm ha r1 r2 kw1 hwk hme1 hon HRD HC0;by_cases hrd:RdP F a s.1
                rotate_left
                · have HNR:Hid (¬RdP F a s.1):=hrd;go_upto_region 29 with(go_at_call 34;refine HR3.mono ?_;rintro e wB ⟨vk,rfl,kv4,-⟩;rw[dc_f hrd];have kB:Kb 0 w1 wB:=kb_kv (uh HQQ).2.2.2.k kv4 (uh HQQ).1 hvw;clear HR3 kv4 hrd x0 x1 x2 x3 x4 y0);have HWR:Hid (WrR F d 10 j):=(show _->_ from h10) HNR;obtain⟨hk8,hb8⟩:=(uh HKZ) wB kB;have HK8:Hid (Kb 0 w wB/\wB.heap[w.heap.size+1]? =some (.cells #[.int .i64 0,.int .i64 0,.int .i64 0] 39 (0,0))):=(⟨hk8,hb8⟩:_/\_)
                  clear kB hvw HKZ HNR h10 HPC HSS HST HQQ hk8 hb8;go_upto_region 29 with fail
                  rename_i K0 hK0
                  have HK0:Kr F d p w K0:=λa' w' h=>hK0 a' w' (wp_ret h);clear hK0;refine thenF ?_;go_wp2_with fail;refine(sp_fault 10 p (j:Int) _).mono ?_;rintro e w9 ⟨rfl,k9⟩;obtain⟨hk8,hb8⟩:=(uh HK8)
                  have hb9:=(k9.block (w.heap.size+1) zq (Array.getElem?_eq_some_iff.1 hb8).1).trans hb8;have r0:w9.cell? ⟨w.heap.size+1,0,none⟩=some (.int .i64 0):=cell_of hb9 rfl;have r1:w9.cell? ⟨w.heap.size+1,1,none⟩=some (.int .i64 0):=cell_of hb9 rfl;have r2:w9.cell? ⟨w.heap.size+1,2,none⟩=some (.int .i64 0):=cell_of hb9 rfl;have fr:∀j,w9.frozen? ⟨w.heap.size+1,j,none⟩=false:=λj=>frozen_of hb9;have HK9:Hid (Kb 0 w w9):=hk8.trans k9;clear hk8 hb8 hb9 k9 HK8;go_wp2_with fail;refine HK0 _ _ (bodyPost_ret (by simp[results,Tryz.results15,go_sem,set3_0 r0,set3_1 r1,set3_2 r2];rfl) rfl ?_);exact⟨_,10,p,j,rfl,HWR,λq=>absurd q (by decide),λ_=>rfl,(((uh HK9).setCell ⟨w.heap.size+1,0,none⟩ (Or.inr (by show w.heap.size<=w.heap.size+1;omega)) _).setCell ⟨w.heap.size+1,1,none⟩ (Or.inr (by show w.heap.size<=w.heap.size+1;omega)) _).setCell ⟨w.heap.size+1,2,none⟩ (Or.inr (by show w.heap.size<=w.heap.size+1;omega)) _,⟨_,_,_,rfl⟩,λq=>absurd q (by decide)⟩
                obtain⟨hbx,r,hr⟩:=id hrd;go_upto_region 30 with(go_at_call 34;refine HR3.mono ?_;rintro e w4 ⟨vk,rfl,kv4,hrr⟩;rw[dc_t hrd];clear HR3 x0 x1 x2 x3 x4 y0);obtain⟨ho4,rk4,pk,nk,ck,hvk⟩:=hrr r hrd hr;subst hvk;clear hrr;obtain⟨hqq,hq0,hql,hmg3⟩:=(uh HQQ)
                have hmg4:Mg a r.T w1 w1.heap.size (.slice pv s.1.length cv) w4:=hmg3.kv kv4 hqq ho4;have z34:=kv4.size;have z13:=hmg3.k.size;obtain⟨hM1,hinv',hjn,hm,ha,r1,r2,kw1,hwk,hme1,hon⟩:=(uh HST)
                obtain⟨h0,hp,hnp,hdF,hI,hd,hn0,hnn,hU,hrowI⟩:=(uh HY)
                obtain⟨hsl,hsg⟩:=(hinv'.st j s hm).2;have hok:=hI j hjn;have hTok:Tok np d a:=by rw[ha];exact hok.1
                have hg0:=hd.2.2.1.1;have hg1:=hd.2.2.1.2;have hrl:r.T.length=s.1.length/\r.K.length<=4:=by have:=rdn_len 4 r hr;exact⟨this.1,this.2.2⟩
                have hmkl:(mk a 4 r.K).length<=5:=by
                  unfold mk;rw[List.length_append];have:=hrl.2;split
                  · simp;omega
                  · simp;omega
                have HSC:Hid (∀W,Kb 0 w4 W->(W.cell? ⟨w1.heap.size,0,none⟩=some (.int .i64 a.o)/\W.cell? ⟨w1.heap.size,1,none⟩=some (.int .i64 a.a)/\W.cell? ⟨w1.heap.size,2,none⟩=some (.int .i64 a.b)/\W.cell? ⟨w1.heap.size,3,none⟩=some (.int .i64 a.c)/\W.cell? ⟨w1.heap.size,4,none⟩=some (.int .i64 a.d))/\W.cell? ⟨SB,j*3,none⟩=some (.bool true)/\W.cell? ⟨SB,j*3+1,none⟩=some (.slice p1 s.1.length t1)/\W.cell? ⟨SB,j*3+2,none⟩=some (.slice p2 s.2.length t2)):=(λW kW=>by
                  have hi4:w4.heap[w1.heap.size]? =_:=hmg4.i;obtain⟨e1,e2,e3⟩:=(uh HSS) W (hmg4.k.trans kW)
                  exact⟨⟨kW.cell (cell_of hi4 rfl),kW.cell (cell_of hi4 rfl),kW.cell (cell_of hi4 rfl),kW.cell (cell_of hi4 rfl),kW.cell (cell_of hi4 rfl)⟩,e1,e2,e3⟩:∀W,_)
                have HCH:Hid (∀W,Kb 0 w4 W->Calls Tryz.prog 35 #[.agg #[.int .i64 a.o,.int .i64 a.a,.int .i64 a.b,.int .i64 a.c,.int .i64 a.d],.slice p2 s.2.length t2] W (ChA a s.2 W)):=(λW kW=>sp_change a W ((r2.kb hmg4.k).kb kW) hsg.1 (λho=>by
                  have hb:=hTok.2.2 1 (by omega);rw[show a.o.toNat=31 by omega]at hb
                  exact(show 0<=a.b/\_ from hb).1) (λho=>by
                  have hb:=hTok.2.2 0 (by omega);rcases ho with ho|ho
                  · rw[show a.o.toNat=33 by omega]at hb;exact(show 0<=a.a/\_ from hb).1
                  · rw[show a.o.toNat=34 by omega]at hb
                    exact(show 0<=a.a/\_ from hb).1):∀W,_)
                have HWRI:Hid (∀W,Kb 0 w4 W->Calls Tryz.prog 36 #[.agg #[.int .i64 a.o,.int .i64 a.a,.int .i64 a.b,.int .i64 a.c,.int .i64 a.d],(.slice pv s.1.length cv)] W (WrA a r.T w1.heap.size (.slice pv s.1.length cv) W)):=(λW kW=>sp_write a W hTok (hmg4.t.kb kW) (by rw[hrl.1];exact hsl) hg1:∀W,_)
                have HAF:Hid (∀W w6,Kb 0 w4 W->WrA a r.T w1.heap.size (.slice pv s.1.length cv) W (.returned (.tuple #[])) w6->Mg a (put a r.T) w1 w1.heap.size (.slice pv s.1.length cv) w6/\Rz (λb=>w1.heap.size<=b) w6 (.slice pk nk ck) (mk a 4 r.K)/\(∀b,w4.heap.size<=b->b<W.heap.size->w6.heap[b]? =W.heap[b]?)):=(λW w6 kW hw=>by
                  obtain⟨-,ho6,hk6⟩:=hw;have hmW:=hmg4.kb kW;have zW:=kW.size
                  have kv6:Kv (.slice pv s.1.length cv) q W w6:=by
                    cases hv:(Value.slice pv s.1.length cv).ownBlock with
                    |none=>exact⟨Kx.of_kb ((hk6 q).2 hv),λ_=>(hk6 q).2 hv⟩
                    |some g=>
                      have e:=hqq g hv;subst e;exact⟨(hk6 g).1 hv,λe=>by rw[hv]at e;cases e⟩
                  have hfar:∀b,w3.heap.size<=b->b<W.heap.size->w6.heap[b]? =W.heap[b]?:=λb h1 h2=>kv6.far hqq (λg e=>by have:=hqq g e;omega) h2;refine⟨hmW.kv kv6 hqq ho6,?_,λb h1 h2=>hfar b (by omega) h2⟩
                  exact(((rk4.kb kW).on (λb hb hl=>hfar b hb hl))).imp (λb _ hb=>by omega):∀W w6,_)
                have HKP:Hid (∀W,Mg a (put a r.T) w1 w1.heap.size (.slice pv s.1.length cv) W->Rz (λb=>w1.heap.size<=b) W (.slice pk nk ck) (mk a 4 r.K)->Calls Tryz.prog 37 #[.agg #[.int .i64 a.o,.int .i64 a.a,.int .i64 a.b,.int .i64 a.c,.int .i64 a.d],.slice p2 s.2.length t2,.slice pk nk ck,.slice p1 s.1.length t1,(.slice pv s.1.length cv)] W λe w'=>e=.returned (.bool (dc (spr a s.2 s.1 (put a r.T) r.K)))/\Kb 0 W w'):=(λW hmW hrk=>by
                  have:=sp_kept a W (r2.kb hmW.k) hrk (r1.kb hmW.k) hmW.t.rz ⟨by have:=hsg.1;omega,by omega,by omega,by rw[put_len];exact hrl.1⟩ (λg hg=>⟨(hsg.2 g hg).1,by have:=(hsg.2 g hg).2;omega⟩)
                  have e:dc (KeptP a s.2 (mk a 4 r.K) s.1 (put a r.T))=dc (spr a s.2 s.1 (put a r.T) r.K):=by
                    by_cases q:spr a s.2 s.1 (put a r.T) r.K
                    · rw[dc_t q,dc_t ((kept_iff hTok hr hsg hsl).2 q)]
                    · rw[dc_f q,dc_f (λz=>q ((kept_iff hTok hr hsg hsl).1 z))]
                  rw[e]at this
                  exact this:∀W,_)
                have HFO:Hid (∀W vgb,gfit a s.2->Mg a (put a r.T) w1 w1.heap.size (.slice pv s.1.length cv) W->Rg (λb=>w1.heap.size<=b) W vgb (gbh a s.2)->Calls Tryz.prog 38 #[.agg #[.string d.x,.int .i64 d.l,.int .i64 d.m,.bool d.r,.int .i64 d.g,.slice a1 b1 c1,.slice a2 b2 c2,.slice (some pI) d.n cn,.slice a3 b3 c3],.int .i64 j,.agg #[.bool true,.slice p1 s.1.length t1,.slice p2 s.2.length t2],(.slice pv s.1.length cv),vgb] W (FoA (Av SB DB) (fol a j s (put a r.T) (gbh a s.2)) W)):=(λW vgb hf hmW hgb=>by
                  have s1:=hM1.size;have s2:=hM1.sl;have s3:=hM1.dl;have s4:=hmW.k.size;have hav:∀b,b<W.heap.size->w1.heap.size<=b->Av SB DB b:=λb _ hb=>⟨by omega,by omega⟩
                  rw[ha];rw[ha]at hr hmW hgb hf
                  exact sp_fol W (hrowI.keep (kw1.trans hmW.k)) hjn (by omega) ⟨⟨_,_,_,rfl⟩,⟨_,_,_,rfl⟩,⟨_,_,_,rfl⟩⟩ (r1.kb hmW.k) (r2.kb hmW.k) (hmW.t.rz.imp hav) (hgb.imp hav) (λb hb=>⟨by omega,by omega⟩) ⟨by omega,by rw[put_len];exact hrl.1⟩ hok.1 hsl (λh41=>h41_of hok.1 hr h41):∀W vgb,_)
                have HNX:Hid ((¬gfit a s.2->WrR F d 11 j)/\(gfit a s.2->¬spr a s.2 s.1 (put a r.T) r.K->WrR F d 12 j)/\(gfit a s.2->spr a s.2 s.1 (put a r.T) r.K->wit F d (k+1)=(fol a j s (put a r.T) (gbh a s.2)).foldl adv (.ok M D')/\∀x,x ∈ fol a j s (put a r.T) (gbh a s.2)->x.1<d.n/\Sok' d x.2)):=(⟨λhf=>⟨k+1,.inl (hwk.trans (nxt_b (l:=[]) (by rw[<-ha];exact stp_11 hbx hr hf) (by decide)))⟩,λhf hp=>⟨k+1,.inl (hwk.trans (nxt_b (l:=[]) (by rw[<-ha];exact stp_12 hbx hr hf hp) (by decide)))⟩,λhf hp=>⟨hwk.trans (nxt_o (by rw[<-ha];exact stp_0 hbx hr hf hp)),by
                  have:=fol_okk hok hjn ⟨hsl,hsg⟩ (T:=put a r.T) (G:=gbh a s.2) (by rw[put_len];exact hrl.1) (gok_bh hTok hsg hf);rw[<-ha]at this
                  exact this⟩⟩:_/\_)
                have HMG4:Hid (Mg a r.T w1 w1.heap.size (.slice pv s.1.length cv) w4):=hmg4;obtain⟨⟨x0,x1,x2,x3,x4⟩,u0,u1,u2⟩:=(uh HSC) w4 (Kb.refl _ _);have HSQ:Hid (∀W,Kb 0 w4 W->W.cell? ⟨w1.heap.size,0,none⟩=some (.int .i64 a.o)/\W.cell? ⟨w1.heap.size,1,none⟩=some (.int .i64 a.a)/\W.cell? ⟨w1.heap.size,2,none⟩=some (.int .i64 a.b)/\W.cell? ⟨w1.heap.size,3,none⟩=some (.int .i64 a.c)/\W.cell? ⟨w1.heap.size,4,none⟩=some (.int .i64 a.d)/\W.cell? ⟨SB,j*3,none⟩=some (.bool true)/\W.cell? ⟨SB,j*3+1,none⟩=some (.slice p1 s.1.length t1)/\W.cell? ⟨SB,j*3+2,none⟩=some (.slice p2 s.2.length t2)):=(λW kW=>by obtain⟨⟨e0,e1,e2,e3,e4⟩,e5,e6,e7⟩:=(uh HSC) W kW;exact⟨e0,e1,e2,e3,e4,e5,e6,e7⟩:∀W,_)
                clear hrd hbx hr kv4 ho4 rk4 hqq hq0 hql hmg3 hmg4 z34 z13 hM1 hinv' hjn hm ha r1 r2 kw1 hwk hme1 hon h0 hp hnp hdF hI hd hn0 hnn hU hrowI hsl hsg hok hTok hg0 hg1 hrl hmkl h10 HQQ hvw;have kz:Kb 0 w4 w4.drew:=kb_drew _;by_cases hf:gfit a s.2
                rotate_left
                · have HCF : Hid (∀ W, Kb 0 w4 W → Calls Tryz.prog 35 #[.agg #[.int .i64 a.o, .int .i64 a.a, .int .i64 a.b, .int .i64 a.c, .int .i64 a.d], .slice p2 s.2.length t2] W fun e w' => ∃ pg ng cg, e = .returned (.tuple #[.slice pg ng cg, .bool false]) ∧ Kb 0 W w') := (fun W kW => by
                    refine((uh HCH) W kW).mono ?_;rintro e w' ⟨pg,ng,cg,rfl,-,k'⟩
                    exact⟨pg,ng,cg,by rw[dc_f hf],k'⟩:∀W,_)
                  have HNF:Hid (¬gfit a s.2):=hf;clear hf HCH
                  go_region_held_law (λW'=>W'.cell? ⟨w1.heap.size,0,none⟩=some (.int .i64 a.o)/\W'.cell? ⟨w1.heap.size,1,none⟩=some (.int .i64 a.a)/\W'.cell? ⟨w1.heap.size,2,none⟩=some (.int .i64 a.b)/\W'.cell? ⟨w1.heap.size,3,none⟩=some (.int .i64 a.c)/\W'.cell? ⟨w1.heap.size,4,none⟩=some (.int .i64 a.d)/\W'.cell? ⟨SB,j*3,none⟩=some (.bool true)/\W'.cell? ⟨SB,j*3+1,none⟩=some (.slice p1 s.1.length t1)/\W'.cell? ⟨SB,j*3+2,none⟩=some (.slice p2 s.2.length t2)) (first|exact s5|exact⟨x0,x1,x2,x3,x4,u0,u1,u2⟩|exact(uh HSQ) _ (by first|exact kz|exact K5))
                    (first
                      |(go_at_call 35;refine((uh HCF) _ kz).mono ?_;rintro e wn ⟨pg,ng,cg,rfl,k5⟩;have K5:Kb 0 w4 wn:=kz.trans k5;clear k5;have s5:=(uh HSQ) wn K5))
                  go_upto_region 32 with fail
                  rename World=>wB
                  have kB:Kb 0 w1 wB:=(uh HMG4).k.trans K5;clear K5 s5 x0 x1 x2 x3 x4 u0 u1 u2 kz HSC HCF;have HWR:Hid (WrR F d 11 j):=(uh HNX).1 HNF;obtain⟨hk8,hb8⟩:=(uh HKZ) wB kB;have HK8:Hid (Kb 0 w wB/\wB.heap[w.heap.size+1]? =some (.cells #[.int .i64 0,.int .i64 0,.int .i64 0] 39 (0,0))):=(⟨hk8,hb8⟩:_/\_)
                  clear kB HKZ HNF HNX HPC HSS HST HMG4 HKP HFO HAF HWRI hk8 hb8;go_upto_region 32 with fail
                  rename_i K0 hK0
                  have HK0:Kr F d p w K0:=λa' w' h=>hK0 a' w' (wp_ret h);clear hK0;refine thenF ?_;go_wp2_with fail;refine(sp_fault 11 p (j:Int) _).mono ?_;rintro e w9 ⟨rfl,k9⟩;obtain⟨hk8,hb8⟩:=(uh HK8)
                  have hb9:=(k9.block (w.heap.size+1) zq (Array.getElem?_eq_some_iff.1 hb8).1).trans hb8;have r0:w9.cell? ⟨w.heap.size+1,0,none⟩=some (.int .i64 0):=cell_of hb9 rfl;have r1:w9.cell? ⟨w.heap.size+1,1,none⟩=some (.int .i64 0):=cell_of hb9 rfl;have r2:w9.cell? ⟨w.heap.size+1,2,none⟩=some (.int .i64 0):=cell_of hb9 rfl;have fr:∀j,w9.frozen? ⟨w.heap.size+1,j,none⟩=false:=λj=>frozen_of hb9;have HK9:Hid (Kb 0 w w9):=hk8.trans k9;clear hk8 hb8 hb9 k9 HK8;go_wp2_with fail;refine HK0 _ _ (bodyPost_ret (by simp[results,Tryz.results15,go_sem,set3_0 r0,set3_1 r1,set3_2 r2];rfl) rfl ?_);exact⟨_,11,p,j,rfl,HWR,λq=>absurd q (by decide),λ_=>rfl,(((uh HK9).setCell ⟨w.heap.size+1,0,none⟩ (Or.inr (by show w.heap.size<=w.heap.size+1;omega)) _).setCell ⟨w.heap.size+1,1,none⟩ (Or.inr (by show w.heap.size<=w.heap.size+1;omega)) _).setCell ⟨w.heap.size+1,2,none⟩ (Or.inr (by show w.heap.size<=w.heap.size+1;omega)) _,⟨_,_,_,rfl⟩,λq=>absurd q (by decide)⟩
                have HCT:Hid (∀W,Kb 0 w4 W->Calls Tryz.prog 35 #[.agg #[.int .i64 a.o,.int .i64 a.a,.int .i64 a.b,.int .i64 a.c,.int .i64 a.d],.slice p2 s.2.length t2] W λe w'=>∃pg cg,e=.returned (.tuple #[.slice pg (gbh a s.2).length cg,.bool true])/\Rg (λb=>W.heap.size<=b) w' (.slice pg (gbh a s.2).length cg) (gbh a s.2)/\Kb 0 W w'):=(λW kW=>by
                  refine((uh HCH) W kW).mono ?_;rintro e w' ⟨pg,ng,cg,rfl,hg,k'⟩;have hg':=hg hf;obtain⟨x,y,e1,-⟩:=id hg';have e2:=(Value.slice.inj e1).2.1;subst e2
                  exact⟨pg,cg,by rw[dc_t hf],hg',k'⟩:∀W,_)
                clear HCH
                go_region_held_law (λW'=>W'.cell? ⟨w1.heap.size,0,none⟩=some (.int .i64 a.o)/\W'.cell? ⟨w1.heap.size,1,none⟩=some (.int .i64 a.a)/\W'.cell? ⟨w1.heap.size,2,none⟩=some (.int .i64 a.b)/\W'.cell? ⟨w1.heap.size,3,none⟩=some (.int .i64 a.c)/\W'.cell? ⟨w1.heap.size,4,none⟩=some (.int .i64 a.d)/\W'.cell? ⟨SB,j*3,none⟩=some (.bool true)/\W'.cell? ⟨SB,j*3+1,none⟩=some (.slice p1 s.1.length t1)/\W'.cell? ⟨SB,j*3+2,none⟩=some (.slice p2 s.2.length t2)) (first|exact s5|exact⟨x0,x1,x2,x3,x4,u0,u1,u2⟩|exact(uh HSQ) _ (by first|exact kz|exact K5))
                  (first
                    |(go_at_call 35;refine((uh HCT) _ kz).mono ?_;rintro e w5 ⟨pg,cg,rfl,hg5,k5⟩;have K5:Kb 0 w4 w5:=kz.trans k5;have s5:=(uh HSQ) w5 K5))
                clear x0 x1 x2 x3 x4 u0 u1 u2 kz HSC HSQ HCT;obtain⟨x0,x1,x2,x3,x4,u0,u1,u2⟩:=s5;have HW5:=(uh HWRI) w5 K5;have HG5:Hid (Rg (λb=>w4.heap.size<=b) w5 (.slice pg (gbh a s.2).length cg) (gbh a s.2)/\Kb 0 w4 w5/\gfit a s.2):=(⟨hg5,K5,hf⟩:_/\_)
                clear hg5 K5 k5 hf HWRI;go_wp2_with fail;refine HW5.mono ?_;intro e w6 hw6;obtain rfl:=hw6.1;obtain⟨hg5,K5,hf⟩:=(uh HG5)
                obtain⟨hmg6,rk6,hfar⟩:=(uh HAF) w5 w6 K5 hw6;have hg6:Rg (λb=>w1.heap.size<=b) w6 (.slice pg (gbh a s.2).length cg) (gbh a s.2):=(hg5.on (λb hb hl=>hfar b hb hl)).imp (λb _ hb=>by have:=(uh HMG4).k.size;omega)
                have HS6:Hid (∀W,Kb 0 w6 W->W.cell? ⟨w1.heap.size,0,none⟩=some (.int .i64 a.o)/\W.cell? ⟨w1.heap.size,1,none⟩=some (.int .i64 a.a)/\W.cell? ⟨w1.heap.size,2,none⟩=some (.int .i64 a.b)/\W.cell? ⟨w1.heap.size,3,none⟩=some (.int .i64 a.c)/\W.cell? ⟨w1.heap.size,4,none⟩=some (.int .i64 a.d)/\W.cell? ⟨SB,j*3,none⟩=some (.bool true)/\W.cell? ⟨SB,j*3+1,none⟩=some (.slice p1 s.1.length t1)/\W.cell? ⟨SB,j*3+2,none⟩=some (.slice p2 s.2.length t2)):=(λW kW=>by
                  have hi6:w6.heap[w1.heap.size]? =_:=hmg6.i;obtain⟨e1,e2,e3⟩:=(uh HSS) W (hmg6.k.trans kW)
                  exact⟨kW.cell (cell_of hi6 rfl),kW.cell (cell_of hi6 rfl),kW.cell (cell_of hi6 rfl),kW.cell (cell_of hi6 rfl),kW.cell (cell_of hi6 rfl),e1,e2,e3⟩:∀W,_)
                have HK6:Hid (∀W,Kb 0 w6 W->Calls Tryz.prog 37 #[.agg #[.int .i64 a.o,.int .i64 a.a,.int .i64 a.b,.int .i64 a.c,.int .i64 a.d],.slice p2 s.2.length t2,.slice pk nk ck,.slice p1 s.1.length t1,(.slice pv s.1.length cv)] W λe w'=>e=.returned (.bool (dc (spr a s.2 s.1 (put a r.T) r.K)))/\Kb 0 W w'):=(λW kW=>(uh HKP) W (hmg6.kb kW) (rk6.kb kW):∀W,_)
                have HM6:Hid (Mg a (put a r.T) w1 w1.heap.size (.slice pv s.1.length cv) w6/\Rg (λb=>w1.heap.size<=b) w6 (.slice pg (gbh a s.2).length cg) (gbh a s.2)/\gfit a s.2):=(⟨hmg6,hg6,hf⟩:_/\_)
                clear x0 x1 x2 x3 x4 u0 u1 u2 HW5 hw6 hg5 K5 hf hmg6 rk6 hfar hg6 HG5 HAF HKP HMG4;obtain⟨x0,x1,x2,x3,x4,u0,u1,u2⟩:=(uh HS6) w6 (Kb.refl _ _);have kz:Kb 0 w6 w6.drew:=kb_drew _;go_upto_region 34 with fail;by_cases hpr:spr a s.2 s.1 (put a r.T) r.K
                rotate_left
                · rw[dc_f hpr]at HK6;have HNF:Hid (¬spr a s.2 s.1 (put a r.T) r.K):=hpr;clear hpr
                  go_region_held_law (λW'=>W'.cell? ⟨w1.heap.size,0,none⟩=some (.int .i64 a.o)/\W'.cell? ⟨w1.heap.size,1,none⟩=some (.int .i64 a.a)/\W'.cell? ⟨w1.heap.size,2,none⟩=some (.int .i64 a.b)/\W'.cell? ⟨w1.heap.size,3,none⟩=some (.int .i64 a.c)/\W'.cell? ⟨w1.heap.size,4,none⟩=some (.int .i64 a.d)/\W'.cell? ⟨SB,j*3,none⟩=some (.bool true)/\W'.cell? ⟨SB,j*3+1,none⟩=some (.slice p1 s.1.length t1)/\W'.cell? ⟨SB,j*3+2,none⟩=some (.slice p2 s.2.length t2)) (first|exact s5|exact⟨x0,x1,x2,x3,x4,u0,u1,u2⟩|exact(uh HS6) _ (by first|exact kz|exact K5))
                    (first
                      |(go_at_call 37;refine((uh HK6) _ kz).mono ?_;rintro e wn ⟨rfl,k5⟩;have K5:Kb 0 w6 wn:=kz.trans k5;clear k5;have s5:=(uh HS6) wn K5))
                  go_upto_region 35 with fail
                  rename World=>wB
                  have kB:Kb 0 w1 wB:=(uh HM6).1.k.trans K5;have HWR0:Hid (WrR F d 12 j):=(uh HNX).2.1 (uh HM6).2.2 HNF;clear K5 s5 x0 x1 x2 x3 x4 u0 u1 u2 kz HS6 HK6;have HWR:Hid (WrR F d 12 j):=HWR0;obtain⟨hk8,hb8⟩:=(uh HKZ) wB kB;have HK8:Hid (Kb 0 w wB/\wB.heap[w.heap.size+1]? =some (.cells #[.int .i64 0,.int .i64 0,.int .i64 0] 39 (0,0))):=(⟨hk8,hb8⟩:_/\_)
                  clear kB HKZ HNF HNX HPC HSS HST HM6 HFO hk8 hb8;go_upto_region 35 with fail
                  rename_i K0 hK0
                  have HK0:Kr F d p w K0:=λa' w' h=>hK0 a' w' (wp_ret h);clear hK0;refine thenF ?_;go_wp2_with fail;refine(sp_fault 12 p (j:Int) _).mono ?_;rintro e w9 ⟨rfl,k9⟩;obtain⟨hk8,hb8⟩:=(uh HK8)
                  have hb9:=(k9.block (w.heap.size+1) zq (Array.getElem?_eq_some_iff.1 hb8).1).trans hb8;have r0:w9.cell? ⟨w.heap.size+1,0,none⟩=some (.int .i64 0):=cell_of hb9 rfl;have r1:w9.cell? ⟨w.heap.size+1,1,none⟩=some (.int .i64 0):=cell_of hb9 rfl;have r2:w9.cell? ⟨w.heap.size+1,2,none⟩=some (.int .i64 0):=cell_of hb9 rfl;have fr:∀j,w9.frozen? ⟨w.heap.size+1,j,none⟩=false:=λj=>frozen_of hb9;have HK9:Hid (Kb 0 w w9):=hk8.trans k9;clear hk8 hb8 hb9 k9 HK8;go_wp2_with fail;refine HK0 _ _ (bodyPost_ret (by simp[results,Tryz.results15,go_sem,set3_0 r0,set3_1 r1,set3_2 r2];rfl) rfl ?_);exact⟨_,12,p,j,rfl,HWR,λq=>absurd q (by decide),λ_=>rfl,(((uh HK9).setCell ⟨w.heap.size+1,0,none⟩ (Or.inr (by show w.heap.size<=w.heap.size+1;omega)) _).setCell ⟨w.heap.size+1,1,none⟩ (Or.inr (by show w.heap.size<=w.heap.size+1;omega)) _).setCell ⟨w.heap.size+1,2,none⟩ (Or.inr (by show w.heap.size<=w.heap.size+1;omega)) _,⟨_,_,_,rfl⟩,λq=>absurd q (by decide)⟩
                rw[dc_t hpr]at HK6;have HPR:Hid (spr a s.2 s.1 (put a r.T) r.K):=hpr;clear hpr
                go_region_held_law (λW'=>W'.cell? ⟨w1.heap.size,0,none⟩=some (.int .i64 a.o)/\W'.cell? ⟨w1.heap.size,1,none⟩=some (.int .i64 a.a)/\W'.cell? ⟨w1.heap.size,2,none⟩=some (.int .i64 a.b)/\W'.cell? ⟨w1.heap.size,3,none⟩=some (.int .i64 a.c)/\W'.cell? ⟨w1.heap.size,4,none⟩=some (.int .i64 a.d)/\W'.cell? ⟨SB,j*3,none⟩=some (.bool true)/\W'.cell? ⟨SB,j*3+1,none⟩=some (.slice p1 s.1.length t1)/\W'.cell? ⟨SB,j*3+2,none⟩=some (.slice p2 s.2.length t2)) (first|exact s5|exact⟨x0,x1,x2,x3,x4,u0,u1,u2⟩|exact(uh HS6) _ (by first|exact kz|exact K5))
                  (first
                    |(go_at_call 37;refine((uh HK6) _ kz).mono ?_;rintro e w7 ⟨rfl,k5⟩;have K5:Kb 0 w6 w7:=kz.trans k5;have s5:=(uh HS6) w7 K5))
                clear x0 x1 x2 x3 x4 u0 u1 u2 kz s5;obtain⟨hmg6,hg6,hf⟩:=(uh HM6)
                have hmg7:=hmg6.kb K5;have hg7:=hg6.kb K5
                have HS7:Hid (∀W,Kb 0 w7 W->W.cell? ⟨w.heap.size+1+1,0,none⟩=some (.string d.x)/\W.cell? ⟨w.heap.size+1+1,1,none⟩=some (.int .i64 d.l)/\W.cell? ⟨w.heap.size+1+1,2,none⟩=some (.int .i64 d.m)/\W.cell? ⟨w.heap.size+1+1,3,none⟩=some (.bool d.r)/\W.cell? ⟨w.heap.size+1+1,4,none⟩=some (.int .i64 d.g)/\W.cell? ⟨w.heap.size+1+1,5,none⟩=some (.slice a1 b1 c1)/\W.cell? ⟨w.heap.size+1+1,6,none⟩=some (.slice a2 b2 c2)/\W.cell? ⟨w.heap.size+1+1,7,none⟩=some (.slice (some pI) d.n cn)/\W.cell? ⟨w.heap.size+1+1,8,none⟩=some (.slice a3 b3 c3)/\W.cell? ⟨SB,j*3,none⟩=some (.bool true)/\W.cell? ⟨SB,j*3+1,none⟩=some (.slice p1 s.1.length t1)/\W.cell? ⟨SB,j*3+2,none⟩=some (.slice p2 s.2.length t2)):=(λW kW=>by
                  have hp7:=(uh HPC) W (hmg7.k.trans kW);obtain⟨e1,e2,e3⟩:=(uh HSS) W (hmg7.k.trans kW)
                  exact⟨cell_of hp7 rfl,cell_of hp7 rfl,cell_of hp7 rfl,cell_of hp7 rfl,cell_of hp7 rfl,cell_of hp7 rfl,cell_of hp7 rfl,cell_of hp7 rfl,cell_of hp7 rfl,e1,e2,e3⟩:∀W,_)
                obtain⟨L,hL⟩:∃L,L=fol a j s (put a r.T) (gbh a s.2):=⟨_,rfl⟩
                have HF7:Hid (∀W,Kb 0 w7 W->Calls Tryz.prog 38 #[.agg #[.string d.x,.int .i64 d.l,.int .i64 d.m,.bool d.r,.int .i64 d.g,.slice a1 b1 c1,.slice a2 b2 c2,.slice (some pI) d.n cn,.slice a3 b3 c3],.int .i64 j,.agg #[.bool true,.slice p1 s.1.length t1,.slice p2 s.2.length t2],(.slice pv s.1.length cv),.slice pg (gbh a s.2).length cg] W λe w'=>∃pf cf,e=.returned (.slice pf L.length cf)/\FoR (Av SB DB) W.heap.size w' (.slice pf L.length cf) L/\Kb 0 W w'):=(λW kW=>by
                  refine((uh HFO) W _ hf (hmg7.kb kW) (hg7.kb kW)).mono ?_;rintro e w' ⟨v,rfl,hv,k'⟩;rw[<-hL]at hv;obtain⟨Z,z1,z2,z3⟩:=id hv;obtain⟨pf,cf,e1⟩:=own_shape z1;rw[z2]at e1;subst e1
                  exact⟨pf,cf,rfl,hv,k'⟩:∀W,_)
                have HNL:Hid (wit F d (k+1)=L.foldl adv (.ok M D')/\(∀x,x ∈ L->x.1<d.n/\Sok' d x.2)/\L.length<=2):=by
                  have:=(uh HNX).2.2 hf HPR;rw[<-hL]at this;refine⟨this.1,this.2,?_⟩;rw[hL];unfold fol;rw[List.length_append,List.length_map];have h2:(tgt a).toList.length<=1:=by cases tgt a<;>simp
                  split<;>simp<;>omega
                have HM7:Hid (Kb 0 w1 w7):=hmg7.k;clear hmg6 hg6 hf hmg7 hg7 hL HM6 HFO HNX HPR HS6 HK6 HPC HSS K5 k5;obtain⟨x0,x1,x2,x3,x4,x5,x6,x7,x8,u0,u1,u2⟩:=(uh HS7) w7 (Kb.refl _ _);have kz:Kb 0 w7 w7.drew:=kb_drew _;go_upto_region 36 with fail
                go_region_held_law (λW'=>W'.cell? ⟨w.heap.size+1+1,0,none⟩=some (.string d.x)/\W'.cell? ⟨w.heap.size+1+1,1,none⟩=some (.int .i64 d.l)/\W'.cell? ⟨w.heap.size+1+1,2,none⟩=some (.int .i64 d.m)/\W'.cell? ⟨w.heap.size+1+1,3,none⟩=some (.bool d.r)/\W'.cell? ⟨w.heap.size+1+1,4,none⟩=some (.int .i64 d.g)/\W'.cell? ⟨w.heap.size+1+1,5,none⟩=some (.slice a1 b1 c1)/\W'.cell? ⟨w.heap.size+1+1,6,none⟩=some (.slice a2 b2 c2)/\W'.cell? ⟨w.heap.size+1+1,7,none⟩=some (.slice (some pI) d.n cn)/\W'.cell? ⟨w.heap.size+1+1,8,none⟩=some (.slice a3 b3 c3)/\W'.cell? ⟨SB,j*3,none⟩=some (.bool true)/\W'.cell? ⟨SB,j*3+1,none⟩=some (.slice p1 s.1.length t1)/\W'.cell? ⟨SB,j*3+2,none⟩=some (.slice p2 s.2.length t2)) (first|exact s5|exact⟨x0,x1,x2,x3,x4,x5,x6,x7,x8,u0,u1,u2⟩|exact(uh HS7) _ (by first|exact kz|exact K5))
                  (first
                    |(go_at_call 38;refine((uh HF7) _ kz).mono ?_;rintro e w8 ⟨pf,cf,rfl,hfo,k5⟩;have K5:Kb 0 w7 w8:=kz.trans k5;have s5:=(uh HS7) w8 K5))
                clear x0 x1 x2 x3 x4 x5 x6 x7 x8 u0 u1 u2 kz s5;obtain⟨hM1,hinv',hjn,hm,ha,r1,r2,kw1,hwk,hme1,hon⟩:=(uh HST)
                have k18:=(uh HM7).trans K5;have hM8:=hM1.kb k18
                have hgb:∀g,(Value.slice pf L.length cf).ownBlock=some g->g≠SB/\g≠DB:=λg e=>by
                  obtain⟨Z,zz,-,-⟩:=hfo;have:=(zz.lt g e).1;have h1:=hM1.sl;have h2:=hM1.dl;have h3:=hM1.size;have h4:=(uh HM7).size;have h5:w7.drew.heap.size=w7.heap.size:=rfl;exact⟨by omega,by omega⟩
                have HFO8:Hid (∀W,Ks2 SB DB w8 W->FoR (Av SB DB) w7.drew.heap.size W (.slice pf L.length cf) L):=(λW kW=>hfo.ks kW hgb:∀W,_)
                have HLP:Hid (∃M1 D1,(L.take 0).foldl adv (.ok M D')=.ok M1 D1/\MW wq SB DB d.n M1 D1 w8/\Inv d M1 D1/\Ks2 SB DB w8 w8/\mu d.n (.ok M1 D1)<=mu d.n (.ok M D')):=⟨M,D',rfl,hM8,hinv',Ks2.of (Kb.refl _ _),Nat.le_refl _⟩
                have HEND:Hid (∀W M1 D1,L.foldl adv (.ok M D')=.ok M1 D1->MW wq SB DB d.n M1 D1 W->mu d.n (.ok M1 D1)<=mu d.n (.ok M D')->(∃(k:Nat) (M:Nat->Option Sv) (D:List Nat),wit F d k=.ok M D/\MW wq SB DB d.n M D W)/\2*fre W SB d.n+onD W DB d.n<2*fre wr SB d.n+onD wr DB d.n):=(λW M1 D1 hf hW hmu=>by
                  refine⟨⟨k+1,M1,D1,(uh HNL).1.trans hf,hW⟩,?_⟩;rw[hme1,hW.meas.1,hW.meas.2];have:mu d.n (.ok M1 D1)=2*freM M1 d.n+onL D1 d.n:=rfl;have h2:mu d.n (.ok M (j::D'))=2*freM M d.n+onL (j::D') d.n:=rfl;have h3:mu d.n (.ok M D')=2*freM M d.n+onL D' d.n:=rfl
                  omega:∀W M1 D1,_)
                have HWQ:Hid (∀W,PFm wq SB DB W->Kb 0 w W/\W.heap[w.heap.size+1]? =some (.cells #[.int .i64 0,.int .i64 0,.int .i64 0] 39 (0,0))):=by
                  obtain⟨hq1,hq2,hq3,hq4,hq5,hq6⟩:=(uh HQ)
                  exact λW hW=>⟨hW.old hq2 (by omega) (by omega),(hq1 W hW.block).2.1⟩
                have LI:(L.length:Int)<=2:=by have:=(uh HNL).2.2;omega
                clear hM1 hinv' hjn hm ha r1 r2 kw1 hwk hme1 hon k18 hM8 hgb hfo K5 k5 HST HF7 HS7 HM7 HKZ;go_wp2_with fail
                go_loopw [168] (λs168 wx=>∃c:Nat,s168=.int .i64 c/\c<=L.length/\Hid (∃M1 D1,(L.take c).foldl adv (.ok M D')=.ok M1 D1/\MW wq SB DB d.n M1 D1 wx/\Inv d M1 D1/\Ks2 SB DB w8 wx/\mu d.n (.ok M1 D1)<=mu d.n (.ok M D'))) (λs168 _=>L.length-(intOf s168).toNat)
                case atStart=>exact⟨0,rfl,Nat.zero_le _,HLP⟩
                case round=>
                  clear HLP;obtain⟨c,rfl,hc,HX⟩:=hrel
                  rename World=>wx
                  obtain⟨M1,D1,hfd,hMx,hix,hks,hmu⟩:=(uh HX)
                  clear HX;obtain⟨hwL,hLx,hL2⟩:=(uh HNL)
                  rcases Nat.lt_or_ge c L.length with hcl|hcl
                  · have cI:(c:Int)<(L.length:Int):=by omega
                    obtain⟨x,hx⟩:∃x,L[c]? =some x:=⟨_,List.getElem?_eq_getElem hcl⟩
                    obtain⟨hxn,hxs⟩:=hLx x (List.mem_of_getElem? hx);have htk:L.take (c+1)=L.take c++[x]:=by rw[List.take_add_one,hx];rfl
                    have hfd1:(L.take (c+1)).foldl adv (.ok M D')=adv (.ok M1 D1) x:=by rw[htk,List.foldl_append,hfd];rfl
                    obtain⟨g,cap,vt',vg',e1,hcap,f0,f1,f2,f3,ra,rb⟩:=((uh HFO8) wx hks).at hx;obtain⟨rfl,-,rfl⟩:=Value.slice.inj e1;obtain⟨tn,hxt⟩:∃tn,tn=x.1:=⟨_,rfl⟩
                    rw[<-hxt]at f0 hxn;have tnI:(tn:Int)<(d.n:Int):=by omega
                    obtain⟨o1,l1,ea,-,-⟩:=id ra;obtain⟨o2,l2,eb,-,-⟩:=id rb;subst ea eb;obtain⟨w9,hw9⟩:∃w9,w9=wx.alloc (.cells #[.int .i64 tn,.bool true,.slice o1 x.2.1.length l1,.slice o2 x.2.2.length l2] 89):=⟨_,rfl⟩
                    have k9:Kb 0 wx w9:=by rw[hw9];exact kb_alloc _ _ _
                    have bb9:w9.heap[wx.heap.size]? =some (.cells #[.int .i64 tn,.bool true,.slice o1 x.2.1.length l1,.slice o2 x.2.2.length l2] 89 (0,0)):=by rw[hw9];exact alloc_new _ _ _
                    have HW9:Hid (w9=wx.alloc (.cells #[.int .i64 tn,.bool true,.slice o1 x.2.1.length l1,.slice o2 x.2.2.length l2] 89)):=hw9;have hM9:=hMx.kb k9;have ra9:=ra.kb k9;have rb9:=rb.kb k9;have hst:=hM9.st tn hxn;have HBX:Hid (∀W,Kb 0 w9 W->W.cell? ⟨wx.heap.size,0,none⟩=some (.int .i64 tn)/\W.cell? ⟨wx.heap.size,1,none⟩=some (.bool true)/\W.cell? ⟨wx.heap.size,2,none⟩=some (.slice o1 x.2.1.length l1)/\W.cell? ⟨wx.heap.size,3,none⟩=some (.slice o2 x.2.2.length l2)):=(λW kW=>⟨kW.cell (cell_of bb9 rfl),kW.cell (cell_of bb9 rfl),kW.cell (cell_of bb9 rfl),kW.cell (cell_of bb9 rfl)⟩:∀W,_)
                    obtain⟨v0,v1,v2,v3⟩:=(uh HBX) w9 (Kb.refl _ _);cases hm1:M1 tn with
                    |none=>
                      rw[hm1]at hst;obtain⟨y0,y1',y2'⟩:=hst;obtain⟨u1,y1⟩:∃u,w9.cell? ⟨SB,tn*3+1,none⟩=some u:=⟨_,y1'⟩
                      obtain⟨u2,y2⟩:∃u,w9.cell? ⟨SB,tn*3+2,none⟩=some u:=⟨_,y2'⟩
                      clear y1' y2'
                      have hadv:adv (.ok M1 D1) x=.ok (upd M1 tn x.2) (insD D1 tn):=by
                        unfold adv;dsimp only;rw[<-hxt,hm1]
                      have hmu2:mu d.n (.ok (upd M1 tn x.2) (insD D1 tn))<=mu d.n (.ok M1 D1):=by
                        rw[<-hadv];exact adv_mu hix (by rw[<-hxt];exact hxn)
                      have hix2:Inv d (upd M1 tn x.2) (insD D1 tn):=by
                        have:=adv_ok (d:=d) (st:=.ok M1 D1) (x:=x) hix ⟨by rw[<-hxt];exact hxn,hxs⟩;rw[hadv]at this;exact this
                      have htnD:tn ∉ D1:=λq=>(hix.du tn q).2 hm1
                      have hl1:x.2.1.length<=1000/\x.2.2.length<=1000:=by
                        obtain⟨z1,z2⟩:=hxs;have z3:=z2.1;have z4:=(uh HY).2.2.2.2.2.1.2.2.1.2;exact⟨by omega,by omega⟩
                      have HCO:Hid (∀W,Kb 0 w9 W->Calls Tryz.prog 33 #[.slice o1 x.2.1.length l1] W λe w'=>∃q1 c1,e=.returned (.slice q1 x.2.1.length c1)/\OwI W.heap.size w' (.slice q1 x.2.1.length c1) x.2.1/\Kb 0 W w'):=(λW kW=>by
                        refine(sp_copy W (ra9.kb kW) hl1.1).mono ?_;rintro e w' ⟨v,rfl,ho,k'⟩;obtain⟨q1,c1,e1⟩:=own_shape ho;subst e1
                        exact⟨q1,c1,rfl,ho,k'⟩:∀W,_)
                      have HGU:Hid (∀W,Kb 0 w9 W->Calls Tryz.prog 39 #[.slice o2 x.2.2.length l2] W λe w'=>∃q1 c1,e=.returned (.slice q1 x.2.2.length c1)/\OwG W.heap.size w' (.slice q1 x.2.2.length c1) x.2.2/\Kb 0 W w'):=(λW kW=>by
                        refine(sp_guards W (rb9.kb kW) hl1.2).mono ?_;rintro e w' ⟨v,rfl,ho,k'⟩;obtain⟨q1,c1,e1⟩:=own_shape ho;subst e1
                        exact⟨q1,c1,rfl,ho,k'⟩:∀W,_)
                      have HSTO:Hid (∀W,Kb 0 w9 W->W.cell? ⟨SB,tn*3,none⟩=some (.bool false)/\(∀b,(W.setCell ⟨SB,tn*3,none⟩ b).cell? ⟨SB,tn*3+1,none⟩=some u1)/\(∀b b',((W.setCell ⟨SB,tn*3,none⟩ b).setCell ⟨SB,tn*3+1,none⟩ b').cell? ⟨SB,tn*3+2,none⟩=some u2)/\W.frozen? ⟨SB,tn*3,none⟩=false/\(∀b,(W.setCell ⟨SB,tn*3,none⟩ b).frozen? ⟨SB,tn*3+1,none⟩=false)/\(∀b b',((W.setCell ⟨SB,tn*3,none⟩ b).setCell ⟨SB,tn*3+1,none⟩ b').frozen? ⟨SB,tn*3+2,none⟩=false)):=(λW kW=>⟨kW.cell y0,λb=>(set_ne _ SB _ _ _ (by omega)).trans (kW.cell y1),λb b'=>(set_ne _ SB _ _ _ (by omega)).trans ((set_ne _ SB _ _ _ (by omega)).trans (kW.cell y2)),(hM9.kb kW).sz _,λb=>(set_fz _ SB _ _ _).trans ((hM9.kb kW).sz _),λb b'=>(set_fz _ SB _ _ _).trans ((set_fz _ SB _ _ _).trans ((hM9.kb kW).sz _))⟩:∀W,_)
                      have hbSB:wx.heap.size≠SB/\wx.heap.size≠DB:=by
                        have h1:=hMx.sl;have h2:=hMx.dl;have h3:=hMx.size;exact⟨by omega,by omega⟩
                      have HAF:Hid (∀W v1 v2,Kb 0 w9 W->Rz (Av SB DB) W v1 x.2.1->Rg (Av SB DB) W v2 x.2.2->(((W.setCell ⟨SB,tn*3,none⟩ (.bool true)).setCell ⟨SB,tn*3+1,none⟩ v1).setCell ⟨SB,tn*3+2,none⟩ v2).cell? ⟨wx.heap.size,0,none⟩=some (.int .i64 tn)/\(((W.setCell ⟨SB,tn*3,none⟩ (.bool true)).setCell ⟨SB,tn*3+1,none⟩ v1).setCell ⟨SB,tn*3+2,none⟩ v2).cell? ⟨wx.heap.size,2,none⟩=some (.slice o1 x.2.1.length l1)/\(((W.setCell ⟨SB,tn*3,none⟩ (.bool true)).setCell ⟨SB,tn*3+1,none⟩ v1).setCell ⟨SB,tn*3+2,none⟩ v2).cell? ⟨wx.heap.size,3,none⟩=some (.slice o2 x.2.2.length l2)/\MW wq SB DB d.n (upd M1 tn x.2) D1 (((W.setCell ⟨SB,tn*3,none⟩ (.bool true)).setCell ⟨SB,tn*3+1,none⟩ v1).setCell ⟨SB,tn*3+2,none⟩ v2)/\Ks2 SB DB w8 (((W.setCell ⟨SB,tn*3,none⟩ (.bool true)).setCell ⟨SB,tn*3+1,none⟩ v1).setCell ⟨SB,tn*3+2,none⟩ v2)):=(λW v1 v2 kW h1 h2=>by
                        obtain⟨e0,-,e2,e3⟩:=(uh HBX) W kW;have hsb:∀b,b≠SB->(((W.setCell ⟨SB,tn*3,none⟩ (.bool true)).setCell ⟨SB,tn*3+1,none⟩ v1).setCell ⟨SB,tn*3+2,none⟩ v2).heap[b]? =W.heap[b]?:=λb hb=>((Below.heap_setCell _ _ _ _ hb).trans (Below.heap_setCell _ _ _ _ hb)).trans (Below.heap_setCell _ _ _ _ hb)
                        exact⟨(World.cell?_of_block (hsb _ hbSB.1)).trans e0,(World.cell?_of_block (hsb _ hbSB.1)).trans e2,(World.cell?_of_block (hsb _ hbSB.1)).trans e3,(hM9.kb kW).new hxn h1 h2,(hks.trans (Ks2.of (k9.trans kW))).trans Ks2.set3⟩:∀W v1 v2,_)
                      have HOW:Hid (∀W,Kb 0 w9 W->∀b,W.heap.size<=b->Av SB DB b):=(λW kW b hb=>by
                        have h1:=hMx.sl;have h2:=hMx.dl;have h3:=hMx.size;have h4:=k9.size;have h5:=kW.size
                        exact⟨by omega,by omega⟩:∀W,_)
                      have HDU:Hid (∀W,MW wq SB DB d.n (upd M1 tn x.2) D1 W->Ks2 SB DB w8 W->W.cell? ⟨DB,tn,none⟩=some (.bool false)/\W.frozen? ⟨DB,tn,none⟩=false/\∃M1 D1,(L.take (c+1)).foldl adv (.ok M D')=.ok M1 D1/\MW wq SB DB d.n M1 D1 (W.setCell ⟨DB,tn,none⟩ (.bool true))/\Inv d M1 D1/\Ks2 SB DB w8 (W.setCell ⟨DB,tn,none⟩ (.bool true))/\mu d.n (.ok M1 D1)<=mu d.n (.ok M D')):=(λW hW kW=>⟨by rw[hW.du tn hxn,dc_f htnD],hW.dz tn,upd M1 tn x.2,insD D1 tn,hfd1.trans hadv,hW.due hxn (λy _=>by
                        by_cases e:y=tn
                        · rw[if_pos e];exact dc_t (insD_mem.2 (.inl e))
                        · rw[if_neg e];by_cases q:y ∈ D1
                          · rw[dc_t q];exact dc_t (insD_mem.2 (.inr q))
                          · rw[dc_f q];exact dc_f (λz=>(insD_mem.1 z).elim e q)),hix2,kW.trans Ks2.due,Nat.le_trans hmu2 hmu⟩:∀W,_)
                      clear hfd hMx hix hks hmu hwL hLx hL2 hcl hx hxs htk hfd1 e1 hcap ra rb hw9 k9 bb9 hM9 ra9 rb9 hm1 hadv hmu2 hix2 htnD hl1 hbSB hxn hxt y1 y2 hc;go_upto_region 39 with fail;rw[<-(uh HW9)];clear HW9 f0 f1 f2 f3;go_upto_region 40 with fail
                      go_cut []from 179 to 192 (λwz=>Hid (MW wq SB DB d.n (upd M1 tn x.2) D1 wz/\Ks2 SB DB w8 wz/\wz.cell? ⟨wx.heap.size,0,none⟩=some (.int .i64 tn)))
                      case first=>
                        have kz:Kb 0 w9 w9.drew:=kb_drew _
                        go_region_held_law (λW'=>W'.cell? ⟨wx.heap.size,0,none⟩=some (.int .i64 tn)/\W'.cell? ⟨wx.heap.size,2,none⟩=some (.slice o1 x.2.1.length l1)/\W'.cell? ⟨wx.heap.size,3,none⟩=some (.slice o2 x.2.2.length l2)) (first|exact⟨sV.1,sV.2.1,sV.2.2.1⟩|exact s5|exact s4|exact⟨v0,v2,v3⟩)
                          (first
                            |(go_at_call 33;refine((uh HCO) _ kz).mono ?_;rintro e wa ⟨qa,ca',rfl,hoa,ka⟩;have KA:Kb 0 w9 wa:=kz.trans ka;have s4:=(let z:=(uh HBX) wa KA;⟨z.1,z.2.2.1,z.2.2.2⟩:wa.cell? ⟨wx.heap.size,0,none⟩=some (.int .i64 tn)/\wa.cell? ⟨wx.heap.size,2,none⟩=some (.slice o1 x.2.1.length l1)/\wa.cell? ⟨wx.heap.size,3,none⟩=some (.slice o2 x.2.2.length l2)))
                            |(go_at_call 39;refine((uh HGU) _ kz).mono ?_;rintro e wa ⟨qg,cg',rfl,hog,ka⟩;have KA:Kb 0 w9 wa:=kz.trans ka;have s4:=(let z:=(uh HBX) wa KA;⟨z.1,z.2.2.1,z.2.2.2⟩:wa.cell? ⟨wx.heap.size,0,none⟩=some (.int .i64 tn)/\wa.cell? ⟨wx.heap.size,2,none⟩=some (.slice o1 x.2.1.length l1)/\wa.cell? ⟨wx.heap.size,3,none⟩=some (.slice o2 x.2.2.length l2)))
                            |(go_at_call 39;refine((uh HGU) _ KA).mono ?_;rintro e wb ⟨qg,cg',rfl,hog,kb⟩;have KB:Kb 0 w9 wb:=KA.trans kb;have s5:=(let z:=(uh HBX) wb KB;⟨z.1,z.2.2.1,z.2.2.2⟩:wb.cell? ⟨wx.heap.size,0,none⟩=some (.int .i64 tn)/\wb.cell? ⟨wx.heap.size,2,none⟩=some (.slice o1 x.2.1.length l1)/\wb.cell? ⟨wx.heap.size,3,none⟩=some (.slice o2 x.2.2.length l2));obtain⟨n0,n1,n2,n3,n4,n5⟩:=(uh HSTO) wb KB;have sV:=(uh HAF) wb (.slice qa x.2.1.length ca') (.slice qg x.2.2.length cg') KB ((hoa.rz.imp (λb _ hb=>(uh HOW) _ kz b hb)).kb kb) (hog.rg.imp (λb _ hb=>(uh HOW) wa KA b hb)))
                            |(go_at_call 33;refine((uh HCO) _ KA).mono ?_;rintro e wb ⟨qa,ca',rfl,hoa,kb⟩;have KB:Kb 0 w9 wb:=KA.trans kb;have s5:=(let z:=(uh HBX) wb KB;⟨z.1,z.2.2.1,z.2.2.2⟩:wb.cell? ⟨wx.heap.size,0,none⟩=some (.int .i64 tn)/\wb.cell? ⟨wx.heap.size,2,none⟩=some (.slice o1 x.2.1.length l1)/\wb.cell? ⟨wx.heap.size,3,none⟩=some (.slice o2 x.2.2.length l2));obtain⟨n0,n1,n2,n3,n4,n5⟩:=(uh HSTO) wb KB;have sV:=(uh HAF) wb (.slice qa x.2.1.length ca') (.slice qg x.2.2.length cg') KB (hoa.rz.imp (λb _ hb=>(uh HOW) wa KA b hb)) ((hog.rg.imp (λb _ hb=>(uh HOW) _ kz b hb)).kb kb)))
                        all_goals
                          have HN:Hid (MW wq SB DB d.n (upd M1 tn x.2) D1 _/\Ks2 SB DB w8 _/\World.cell? _ ⟨wx.heap.size,0,none⟩=some (.int .i64 tn)):=(⟨sV.2.2.2.1,sV.2.2.2.2,sV.1⟩:_/\_)
                          clear sV s4 s5 n0 n1 n2 n3 n4 n5;go_wp2_with fail
                          go_meet
                          case rel=>exact HN
                      case rest=>
                        rename World=>wz
                        obtain⟨hMz,hkz,v0z⟩:=(show MW wq SB DB d.n (upd M1 tn x.2) D1 wz/\Ks2 SB DB w8 wz/\wz.cell? ⟨wx.heap.size,0,none⟩=some (.int .i64 tn)from hcut)
                        obtain⟨g0,g1,hrel2⟩:=(uh HDU) wz hMz hkz;have HN:Hid (∃M1 D1,(L.take (c+1)).foldl adv (.ok M D')=.ok M1 D1/\MW wq SB DB d.n M1 D1 (wz.setCell ⟨DB,tn,none⟩ (.bool true))/\Inv d M1 D1/\Ks2 SB DB w8 (wz.setCell ⟨DB,tn,none⟩ (.bool true))/\mu d.n (.ok M1 D1)<=mu d.n (.ok M D')):=hrel2;clear hMz hkz hcut hrel2 HDU HAF HSTO HCO HGU HBX HOW v0 v1 v2 v3 y0;go_wp2_with fail;go_roundw
                        case rel=>exact⟨c+1,by go_num,by omega,HN⟩
                        case measure=>simp[intOf];omega
                    |some s0=>
                      rw[hm1]at hst;obtain⟨y0,vt0,vg0,y1,y2,ta,tb⟩:=hst;obtain⟨o3,l3,ec,-,-⟩:=id ta;obtain⟨o4,l4,ed,-,-⟩:=id tb;subst ec ed
                      have hls:x.2.1.length<=1000/\x.2.2.length<=1000/\s0.1.length<=1000/\s0.2.length<=1000:=by
                        obtain⟨z1,z2⟩:=hxs;obtain⟨-,z5,z6⟩:=hix.st tn s0 hm1;have z3:=z2.1;have z7:=z6.1;have z4:=(uh HY).2.2.2.2.2.1.2.2.1.2;exact⟨by omega,by omega,by omega,by omega⟩
                      have HSM:Hid (∀W,Kb 0 w9 W->Calls Tryz.prog 40 #[.agg #[.bool true,.slice o3 s0.1.length l3,.slice o4 s0.2.length l4],.agg #[.bool true,.slice o1 x.2.1.length l1,.slice o2 x.2.2.length l2]] W λe w'=>e=.returned (.bool (dc (s0.1=x.2.1/\s0.2=x.2.2)))/\Kb 0 W w'):=(λW kW=>sp_same W (ta.kb kW) (tb.kb kW) (ra9.kb kW) (rb9.kb kW) ⟨hls.2.2.1,hls.1,hls.2.2.2,hls.2.1⟩:∀W,_)
                      have HSC:Hid (∀W,Kb 0 w9 W->W.cell? ⟨wx.heap.size,0,none⟩=some (.int .i64 tn)/\W.cell? ⟨wx.heap.size,1,none⟩=some (.bool true)/\W.cell? ⟨wx.heap.size,2,none⟩=some (.slice o1 x.2.1.length l1)/\W.cell? ⟨wx.heap.size,3,none⟩=some (.slice o2 x.2.2.length l2)/\W.cell? ⟨SB,tn*3,none⟩=some (.bool true)/\W.cell? ⟨SB,tn*3+1,none⟩=some (.slice o3 s0.1.length l3)/\W.cell? ⟨SB,tn*3+2,none⟩=some (.slice o4 s0.2.length l4)):=(λW kW=>by
                        obtain⟨e0,e1,e2,e3⟩:=(uh HBX) W kW
                        exact⟨e0,e1,e2,e3,kW.cell y0,kW.cell y1,kW.cell y2⟩:∀W,_)
                      have HNX9:Hid (∀W,Kb 0 w9 W->(s0=x.2->∃M1 D1,(L.take (c+1)).foldl adv (.ok M D')=.ok M1 D1/\MW wq SB DB d.n M1 D1 W/\Inv d M1 D1/\Ks2 SB DB w8 W/\mu d.n (.ok M1 D1)<=mu d.n (.ok M D'))/\(s0≠x.2->WrR F d 13 tn)/\PFm wq SB DB W):=(λW kW=>⟨λe=>⟨M1,D1,by rw[hfd1];unfold adv;dsimp only;rw[<-hxt,hm1];dsimp only;rw[if_pos e],hM9.kb kW,hix,hks.trans (Ks2.of (k9.trans kW)),hmu⟩,λe=>⟨k+1,.inl (by
                        rw[hwL,<-List.take_append_drop (c+1) L,List.foldl_append,hfd1];have:adv (.ok M1 D1) x=.bad 13 tn:=by unfold adv;dsimp only;rw[<-hxt,hm1];dsimp only;rw[if_neg e]
                        rw[this]
                        exact fold_bad)⟩,(hM9.kb kW).pf⟩:∀W,_)
                      clear hfd hMx hix hks hmu hwL hLx hL2 hcl hx hxs htk hfd1 e1 hcap ra rb hw9 k9 bb9 hM9 ra9 rb9 hm1 hxn hxt ta tb hls hc;go_upto_region 39 with fail;rw[<-(uh HW9)];clear HW9 f0 f1 f2 f3;go_upto_region 42 with fail;have kz:Kb 0 w9 w9.drew:=kb_drew _;by_cases heq:s0=x.2
                      · have hdc:s0.1=x.2.1/\s0.2=x.2.2:=⟨by rw[heq],by rw[heq]⟩
                        rw[dc_t hdc]at HSM;have HEQ:Hid (s0=x.2):=heq;clear hdc heq
                        go_region_held_law (λW'=>W'.cell? ⟨wx.heap.size,0,none⟩=some (.int .i64 tn)/\W'.cell? ⟨wx.heap.size,1,none⟩=some (.bool true)/\W'.cell? ⟨wx.heap.size,2,none⟩=some (.slice o1 x.2.1.length l1)/\W'.cell? ⟨wx.heap.size,3,none⟩=some (.slice o2 x.2.2.length l2)/\W'.cell? ⟨SB,tn*3,none⟩=some (.bool true)/\W'.cell? ⟨SB,tn*3+1,none⟩=some (.slice o3 s0.1.length l3)/\W'.cell? ⟨SB,tn*3+2,none⟩=some (.slice o4 s0.2.length l4)) (first|exact s5|exact⟨v0,v1,v2,v3,y0,y1,y2⟩|exact(uh HSC) _ (by first|exact kz|exact K5))
                          (first
                            |(go_at_call 40;refine((uh HSM) _ kz).mono ?_;rintro e wn ⟨rfl,k5⟩;have K5:Kb 0 w9 wn:=kz.trans k5;clear k5;have s5:=(uh HSC) wn K5))
                        have HN:Hid (∃M1 D1,(L.take (c+1)).foldl adv (.ok M D')=.ok M1 D1/\MW wq SB DB d.n M1 D1 wn/\Inv d M1 D1/\Ks2 SB DB w8 wn/\mu d.n (.ok M1 D1)<=mu d.n (.ok M D')):=((uh HNX9) wn K5).1 HEQ;clear HNX9 HSM HSC HBX K5 s5 v0 v1 v2 v3 y0 y1 y2 kz HEQ;go_wp2_with fail;go_roundw
                        case rel=>exact⟨c+1,by go_num,by omega,HN⟩
                        case measure=>simp[intOf];omega
                      · have hdc:¬(s0.1=x.2.1/\s0.2=x.2.2):=λq=>heq (Prod.ext q.1 q.2);rw[dc_f hdc]at HSM;have HEQ:Hid (s0≠x.2):=heq;clear hdc heq
                        go_region_held_law (λW'=>W'.cell? ⟨wx.heap.size,0,none⟩=some (.int .i64 tn)/\W'.cell? ⟨wx.heap.size,1,none⟩=some (.bool true)/\W'.cell? ⟨wx.heap.size,2,none⟩=some (.slice o1 x.2.1.length l1)/\W'.cell? ⟨wx.heap.size,3,none⟩=some (.slice o2 x.2.2.length l2)/\W'.cell? ⟨SB,tn*3,none⟩=some (.bool true)/\W'.cell? ⟨SB,tn*3+1,none⟩=some (.slice o3 s0.1.length l3)/\W'.cell? ⟨SB,tn*3+2,none⟩=some (.slice o4 s0.2.length l4)) (first|exact s5|exact⟨v0,v1,v2,v3,y0,y1,y2⟩|exact(uh HSC) _ (by first|exact kz|exact K5))
                          (first
                            |(go_at_call 40;refine((uh HSM) _ kz).mono ?_;rintro e wB ⟨rfl,k5⟩;have K5:Kb 0 w9 wB:=kz.trans k5;clear k5;have s5:=(uh HSC) wB K5))
                        obtain⟨-,hw13,hpf⟩:=(uh HNX9) wB K5;have HWR0:Hid (WrR F d 13 tn):=hw13 HEQ;have v0B:=s5.1;have hkb:=(uh HWQ) wB hpf;clear HNX9 HSM HSC HBX K5 s5 v0 v1 v2 v3 y0 y1 y2 kz HEQ hw13 hpf;go_upto_region 43 with fail;have HWR:Hid (WrR F d 13 tn):=HWR0;obtain⟨hk8,hb8⟩:=hkb;have HK8:Hid (Kb 0 w wB/\wB.heap[w.heap.size+1]? =some (.cells #[.int .i64 0,.int .i64 0,.int .i64 0] 39 (0,0))):=(⟨hk8,hb8⟩:_/\_)
                        clear HNL HEND HFO8 HWQ hk8 hb8
                        rename_i K0 hK0
                        have HK0:Kr F d p w K0:=λa' w' h=>hK0 a' w' (wp_ret h);clear hK0;refine thenF ?_;go_wp2_with fail;refine(sp_fault 13 p (tn:Int) _).mono ?_;rintro e w9 ⟨rfl,k9⟩;obtain⟨hk8,hb8⟩:=(uh HK8)
                        have hb9:=(k9.block (w.heap.size+1) zq (Array.getElem?_eq_some_iff.1 hb8).1).trans hb8;have r0:w9.cell? ⟨w.heap.size+1,0,none⟩=some (.int .i64 0):=cell_of hb9 rfl;have r1:w9.cell? ⟨w.heap.size+1,1,none⟩=some (.int .i64 0):=cell_of hb9 rfl;have r2:w9.cell? ⟨w.heap.size+1,2,none⟩=some (.int .i64 0):=cell_of hb9 rfl;have fr:∀j,w9.frozen? ⟨w.heap.size+1,j,none⟩=false:=λj=>frozen_of hb9;have HK9:Hid (Kb 0 w w9):=hk8.trans k9;clear hk8 hb8 hb9 k9 HK8;go_wp2_with fail;refine HK0 _ _ (bodyPost_ret (by simp[results,Tryz.results15,go_sem,set3_0 r0,set3_1 r1,set3_2 r2];rfl) rfl ?_);exact⟨_,13,p,tn,rfl,HWR,λq=>absurd q (by decide),λ_=>rfl,(((uh HK9).setCell ⟨w.heap.size+1,0,none⟩ (Or.inr (by show w.heap.size<=w.heap.size+1;omega)) _).setCell ⟨w.heap.size+1,1,none⟩ (Or.inr (by show w.heap.size<=w.heap.size+1;omega)) _).setCell ⟨w.heap.size+1,2,none⟩ (Or.inr (by show w.heap.size<=w.heap.size+1;omega)) _,⟨_,_,_,rfl⟩,λq=>absurd q (by decide)⟩
                  · have cI:¬(c:Int)<(L.length:Int):=by omega
                    have hcL:L.take c=L:=List.take_of_length_le hcl;rw[hcL]at hfd;obtain⟨hr1,hr2⟩:=(uh HEND) wx M1 D1 hfd hMx hmu;have HR1:Hid (∃(k:Nat) (M:Nat->Option Sv) (D:List Nat),wit F d k=.ok M D/\MW wq SB DB d.n M D wx):=hr1;have HR2:Hid (2*fre wx SB d.n+onD wx DB d.n<2*fre wr SB d.n+onD wr DB d.n):=hr2;clear hfd hMx hix hks hmu hwL hLx hL2 hcl hcL hr1 hr2 HEND HNL HFO8 HWQ;go_wp2_with fail;go_roundw
                    case rel=>exact HR1
                    case measure=>exact HR2
            · have jI:¬(j:Int)<(d.n:Int):=by omega
              obtain rfl:j=d.n:=by omega
              obtain⟨hk,hM,hinv⟩:=(uh HR0)
              have hD:D=[]:=by
                cases D with
                |nil=>rfl
                |cons x D'=>exact absurd (List.mem_cons_self ..) ((uh HJ) x (hinv.du x (List.mem_cons_self ..)).1)
              subst hD;clear HR0 HDU HJ h;have gj:((d.n:Int)==(d.n:Int))=true:=by simp
              obtain⟨hbS,hbD,-⟩:=(uh HBB)
              have HF0:Hid (wit F d k=.ok M []/\bS=⟨SB,0,none⟩):=(⟨hk,hbS⟩:_/\_)
              have HLS:Hid (MW wq SB DB d.n M [] wr/\∀y,y<0->M y≠none->¬Cy (Es d) y):=(⟨hM,λy hy=>by omega⟩:_/\_)
              clear hk hM hinv hbS hbD hj;go_wp2_with fail
              go_loopw [76] (λs76 wz=>∃i:Nat,s76=.int .i64 i/\i<=d.n/\Hid (MW wq SB DB d.n M [] wz/\∀y,y<i->M y≠none->¬Cy (Es d) y)) (λs76 _=>d.n-(intOf s76).toNat)
              case atStart=>exact⟨0,rfl,Nat.zero_le _,HLS⟩
              case round=>
                obtain⟨i,rfl,hi,HX⟩:=hrel
                rename World=>wz
                clear HLS;obtain⟨hM,hall⟩:=(uh HX)
                clear HX;have hY:=(uh HY)
                obtain⟨hk,hbS⟩:=(uh HF0)
                obtain⟨hq1,hq2,hq3,hq4,hq5,hq6⟩:=(uh HQ)
                obtain⟨tb0,tb1,tb2⟩:=hq1 wz hM.block;have kwz:Kb 0 w wz:=hM.old hq2 (by omega) (by omega);rcases Nat.lt_or_ge i d.n with h|h
                · have iI:(i:Int)<(d.n:Int):=by omega
                  have hst:=hM.st i h;cases hmi:M i with
                  |none=>
                    rw[hmi]at hst;have ci:wz.cell? (bS.add (i*3))=some (.bool false):=by rw[hbS,addr0];exact hst.1
                    have HN:Hid (MW wq SB DB d.n M [] wz/\∀y,y<i+1->M y≠none->¬Cy (Es d) y):=(⟨hM,λy hy hny=>by
                      by_cases e:y=i
                      · subst e;exact absurd hmi hny
                      · exact hall y (by omega) hny⟩:_/\_)
                    clear hM hall hY hk hbS hq1 hq2 hq3 hq4 hq5 hq6 tb0 tb1 tb2 kwz hst hmi;go_wp2_with fail;go_roundw
                    case rel=>exact⟨i+1,by go_num,by omega,HN⟩
                    case measure=>simp[intOf];omega
                  |some s=>
                    rw[hmi]at hst;have ci:wz.cell? (bS.add (i*3))=some (.bool true):=by rw[hbS,addr0];exact hst.1
                    have x0:wz.cell? ⟨w.heap.size+1+1,0,none⟩=some (.string d.x):=cell_of tb2 rfl;have x1:wz.cell? ⟨w.heap.size+1+1,1,none⟩=some (.int .i64 d.l):=cell_of tb2 rfl;have x2:wz.cell? ⟨w.heap.size+1+1,2,none⟩=some (.int .i64 d.m):=cell_of tb2 rfl;have x3:wz.cell? ⟨w.heap.size+1+1,3,none⟩=some (.bool d.r):=cell_of tb2 rfl;have x4:wz.cell? ⟨w.heap.size+1+1,4,none⟩=some (.int .i64 d.g):=cell_of tb2 rfl;have x5:wz.cell? ⟨w.heap.size+1+1,5,none⟩=some (.slice a1 b1 c1):=cell_of tb2 rfl;have x6:wz.cell? ⟨w.heap.size+1+1,6,none⟩=some (.slice a2 b2 c2):=cell_of tb2 rfl;have x7:wz.cell? ⟨w.heap.size+1+1,7,none⟩=some (.slice (some pI) d.n cn):=cell_of tb2 rfl;have x8:wz.cell? ⟨w.heap.size+1+1,8,none⟩=some (.slice a3 b3 c3):=cell_of tb2 rfl;have HRD:=sp_round (np:=np) (vu:=.slice a1 b1 c1) (vc:=.slice a2 b2 c2) (vd:=.slice a3 b3 c3) wz (hY.2.2.2.2.2.2.2.2.2.keep kwz) h (by omega) ⟨⟨_,_,_,rfl⟩,⟨_,_,_,rfl⟩,⟨_,_,_,rfl⟩⟩ hY.2.2.2.2.1;by_cases hcy:Cy (Es d) i
                    · rw[dc_t hcy]at HRD;have hwr:WrR F d 14 i:=⟨k,.inr ⟨M,hk,.inr ⟨rfl,by rw[hmi];simp,hcy,hall⟩⟩⟩
                      have HWR:Hid (WrR F d 14 i):=hwr;have HKZ:Hid (∀W,Kb 0 wz W->Kb 0 w W/\W.heap[w.heap.size+1]? =some (.cells #[.int .i64 0,.int .i64 0,.int .i64 0] 39 (0,0))):=(λW kW=>⟨kwz.trans kW,(kW.block _ zq (Array.getElem?_eq_some_iff.1 tb1).1).trans tb1⟩:∀W,_)
                      clear hM hall hY hk hbS hq1 hq2 hq3 hq4 hq5 hq6 tb0 tb1 tb2 kwz hst hmi hcy hwr;go_upto_region 21 with(go_at_call 31;refine HRD.mono ?_;rintro e w8 ⟨rfl,k8⟩;have HK8:Hid (Kb 0 wz w8):=k8;clear k8 HRD ci x0 x1 x2 x3 x4 x5 x6 x7 x8)
                      rename_i K0 hK0
                      have HK0:Kr F d p w K0:=λa' w' h=>hK0 a' w' (wp_ret h);clear hK0;refine thenF ?_;go_wp2_with fail;refine(sp_fault 14 p i _).mono ?_;rintro e w9 ⟨rfl,k9⟩;obtain⟨hk8,hb8⟩:=(uh HKZ) w8 HK8;have hb9:=(k9.block (w.heap.size+1) zq (Array.getElem?_eq_some_iff.1 hb8).1).trans hb8;have r0:w9.cell? ⟨w.heap.size+1,0,none⟩=some (.int .i64 0):=cell_of hb9 rfl;have r1:w9.cell? ⟨w.heap.size+1,1,none⟩=some (.int .i64 0):=cell_of hb9 rfl;have r2:w9.cell? ⟨w.heap.size+1,2,none⟩=some (.int .i64 0):=cell_of hb9 rfl;have fr:∀j,w9.frozen? ⟨w.heap.size+1,j,none⟩=false:=λj=>frozen_of hb9;have HK9:Hid (Kb 0 w w9):=hk8.trans k9
                      first|clear hk8|skip
                      first|clear hb8|skip
                      first|clear hb9|skip
                      first|clear k9|skip
                      first|clear HKZ|skip
                      first|clear HK8|skip
                      first|clear HY|skip
                      first|clear HQ|skip
                      first|clear HBB|skip
                      first|clear HF0|skip
                      first|clear pI2|skip
                      first|clear npI|skip
                      first|clear nI|skip
                      first|clear n0I|skip
                      first|clear g0I|skip
                      first|clear g1I|skip
                      first|clear jI|skip
                      first|clear gj|skip
                      first|clear iI|skip
                      first|clear hi|skip
                      first|clear h|skip
                      go_wp2_with fail;refine HK0 _ _ (bodyPost_ret (by simp[results,Tryz.results15,go_sem,set3_0 r0,set3_1 r1,set3_2 r2];rfl) rfl ?_);exact⟨_,14,p,i,rfl,HWR,λq=>absurd q (by decide),λ_=>rfl,(((uh HK9).setCell ⟨w.heap.size+1,0,none⟩ (Or.inr (by show w.heap.size<=w.heap.size+1;omega)) _).setCell ⟨w.heap.size+1,1,none⟩ (Or.inr (by show w.heap.size<=w.heap.size+1;omega)) _).setCell ⟨w.heap.size+1,2,none⟩ (Or.inr (by show w.heap.size<=w.heap.size+1;omega)) _,⟨_,_,_,rfl⟩,λq=>absurd q (by decide)⟩
                    · rw[dc_f hcy]at HRD
                      have HNX:Hid (∀W,Kb 0 wz W->MW wq SB DB d.n M [] W/\∀y,y<i+1->M y≠none->¬Cy (Es d) y):=(λW kW=>⟨hM.kb kW,λy hy hny=>by
                        by_cases e:y=i
                        · subst e;exact hcy
                        · exact hall y (by omega) hny⟩:∀W,_)
                      clear hM hall hY hk hbS hq1 hq2 hq3 hq4 hq5 hq6 tb0 tb1 tb2 kwz hst hmi hcy;go_wp2_with (go_at_call 31;refine HRD.mono ?_;rintro e w8 ⟨rfl,k8⟩;have HN:Hid (MW wq SB DB d.n M [] w8/\∀y,y<i+1->M y≠none->¬Cy (Es d) y):=(uh HNX) w8 k8;clear k8 HRD HNX ci x0 x1 x2 x3 x4 x5 x6 x7 x8);go_roundw
                      case rel=>exact⟨i+1,by go_num,by omega,HN⟩
                      case measure=>simp[intOf];omega
                · have iI:¬(i:Int)<(d.n:Int):=by omega
                  have r0:wz.cell? ⟨w.heap.size+1,0,none⟩=some (.int .i64 0):=cell_of tb1 rfl;have r1:wz.cell? ⟨w.heap.size+1,1,none⟩=some (.int .i64 0):=cell_of tb1 rfl;have r2:wz.cell? ⟨w.heap.size+1,2,none⟩=some (.int .i64 0):=cell_of tb1 rfl;have fr:∀j,wz.frozen? ⟨w.heap.size+1,j,none⟩=false:=λj=>frozen_of tb1
                  have HWR:Hid (WrR F d 0 0):=⟨k,.inr ⟨M,hk,.inl ⟨rfl,rfl,λy hny=>by
                    rcases Nat.lt_or_ge y d.n with q|q
                    · exact hall y (by omega) hny
                    · cases hmy:M y with
                      |none=>exact absurd hmy hny
                      |some s'=>
                        have:=wit_ok (F:=F) hY.2.2.2.2.1 hY.2.2.2.2.2.2.1 hY.2.2.2.2.2.1 k;rw[hk]at this;have:=((show Inv d M []from this).st y s' hmy).1
                        omega⟩⟩⟩
                  have HSTR:Hid (∀W,Kb 0 wz W->StR F d (.slice (some bS) d.n d.n) W):=(λW kW=>⟨k,M,SB,_,hk,by rw[hbS],λj hj=>(hM.st j hj).kb kW⟩:∀W,Kb 0 wz W->StR F d (.slice (some bS) d.n d.n) W)
                  have HKS:Hid (Kb 0 wz (((wz.setCell ⟨w.heap.size+1,0,none⟩ (.int .i64 0)).setCell ⟨w.heap.size+1,1,none⟩ (.int .i64 0)).setCell ⟨w.heap.size+1,2,none⟩ (.int .i64 0))):=zero_kb tb1;have HK9:Hid (Kb 0 w wz):=kwz;clear hM hall hY hk hbS hq1 hq2 hq3 hq4 hq5 hq6 tb0 tb1 tb2 kwz;go_upto_region 23 with fail
                  rename_i K0 hK0
                  have HK0:Kr F d p w K0:=λa' w' h=>hK0 a' w' (wp_ret h);clear hK0;refine thenF ?_;go_wp2_with fail;refine HK0 _ _ (bodyPost_ret (by simp[results,Tryz.results15,go_sem,set3_0 r0,set3_1 r1,set3_2 r2];rfl) rfl ?_);exact⟨_,0,0,0,rfl,HWR,λ_=>rfl,λq=>absurd rfl q,(((uh HK9).setCell ⟨w.heap.size+1,0,none⟩ (Or.inr (by show w.heap.size<=w.heap.size+1;omega)) _).setCell ⟨w.heap.size+1,1,none⟩ (Or.inr (by show w.heap.size<=w.heap.size+1;omega)) _).setCell ⟨w.heap.size+1,2,none⟩ (Or.inr (by show w.heap.size<=w.heap.size+1;omega)) _,⟨_,_,_,rfl⟩,λ_=>(uh HSTR) _ HKS⟩
