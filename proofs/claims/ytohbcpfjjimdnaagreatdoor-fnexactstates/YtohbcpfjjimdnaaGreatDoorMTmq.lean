import Derived.Test.YtohbcpfjjimdnaaGreatDoorMTmp
set_option maxHeartbeats 64000000
namespace Go.Proofs.YtohbcpfjjimdnaaGreatDoor.Fo
open Go.ChangeShapes Go.WideShapes Go.ChangeAt Go.RowKit
set_option linter.unusedVariables false
set_option maxRecDepth 100000
theorem sp_read{A:Addr}{np ca p base q:Nat}{F:Nat->Pd}{d:Pd}{vt:Value}{T:List Int}(a:Iv)(w0 w:World)(h0:∀i,i<np->ProC 0 w0 (A.add (i*9)) (F i))(k0:Kb 0 w0 w)(hq0:w0.heap.size<=q)(hq1:q<w.heap.size)(hqq:∀g,vt.ownBlock=some g->g=q)(hO:OwI base w vt T)(ht:Tok np d a)(hl:(T.length:Int)=d.g)(hg:d.g<=250)(hnp:np<=1048576)(hU:a.o=11->(F a.b.toNat).u<=1048576/\Uok d (F a.b.toNat)):
    Calls Tryz.prog 34 #[.agg #[.slice (some A) np ca],.int .i64 p,.agg #[.int .i64 a.o,.int .i64 a.a,.int .i64 a.b,.int .i64 a.c,.int .i64 a.d],vt] w (RdA F a T base q vt w):=by
  obtain⟨n,hn⟩:∃n:Nat,a.o=(n:Int):=⟨a.o.toNat,by have:=ht.1;omega⟩
  have n1:1<=n:=by have:=ht.1;omega
  have n42:n<=42:=by have:=ht.2.1;omega
  have HY:Hid ((∀i,i<np->ProC 0 w0 (A.add (i*9)) (F i))/\Tok np d a/\(T.length:Int)=d.g/\d.g<=250/\np<=1048576/\(a.o=11->(F a.b.toNat).u<=1048576/\Uok d (F a.b.toNat))/\a.o=(n:Int)/\1<=n/\n<=42):=(⟨h0,ht,hl,hg,hnp,hU,hn,n1,n42⟩:_/\_)
  have HRO:=λW=>sp_rolesB n n1 n42 W;rw[<-hn]at HRO;have HFD:=λW=>sp_fieldsB a W;unfold insv at HFD;obtain⟨adt,capt,hvt⟩:=own_shape hO;have HVT:Hid (vt=.slice adt T.length capt):=hvt;obtain⟨w2,hw2⟩:∃w2,w2=(w.alloc (.cells #[.slice (some A) np ca] 30)).alloc (.cells #[.int .i64 a.o,.int .i64 a.a,.int .i64 a.b,.int .i64 a.c,.int .i64 a.d] 79):=⟨_,rfl⟩
  have HW:Hid (w2=(w.alloc (.cells #[.slice (some A) np ca] 30)).alloc (.cells #[.int .i64 a.o,.int .i64 a.a,.int .i64 a.b,.int .i64 a.c,.int .i64 a.d] 79)):=hw2;obtain⟨b0,b1,bs,k2⟩:=two_new' w _ _ _ _ w2 hw2;have HB:Hid (w2.heap[w.heap.size]? =some (.cells #[.slice (some A) np ca] 30 (0,0))/\w2.heap[w.heap.size+1]? =some (.cells #[.int .i64 a.o,.int .i64 a.a,.int .i64 a.b,.int .i64 a.c,.int .i64 a.d] 79 (0,0))/\Kb 0 w w2/\Kb 0 w0 w/\q<w.heap.size/\w0.heap.size<=q/\OwI base w vt T/\(∀g,vt.ownBlock=some g->g=q)):=(⟨b0,b1,k2,k0,hq1,hq0,hO,hqq⟩:_/\_)
  have i0:w2.cell? ⟨w.heap.size+1,0,none⟩=some (.int .i64 a.o):=cell_of b1 rfl;have i1:w2.cell? ⟨w.heap.size+1,1,none⟩=some (.int .i64 a.a):=cell_of b1 rfl;have i2:w2.cell? ⟨w.heap.size+1,2,none⟩=some (.int .i64 a.b):=cell_of b1 rfl;have i3:w2.cell? ⟨w.heap.size+1,3,none⟩=some (.int .i64 a.c):=cell_of b1 rfl;have i4:w2.cell? ⟨w.heap.size+1,4,none⟩=some (.int .i64 a.d):=cell_of b1 rfl;clear hw2 b0 b1 bs k2 h0 k0 hq0 hq1 hqq hO ht hl hg hnp hU hn n1 n42 hvt;go_enter Tryz.func34,Tryz.ntmps34;go_wp2_with fail;rw[<-(uh HW)];clear HW;refine(HRO w2).mono ?_;rintro e w3 ⟨Fr,rfl,hF,k3,hFb⟩;clear HRO;replace i0:=k3.cell i0;replace i1:=k3.cell i1;replace i2:=k3.cell i2;replace i3:=k3.cell i3;replace i4:=k3.cell i4;have HK3:Hid (Kb 0 w2 w3/\(∀j,j<4->w3.cell? (Fr.add j)=some (.int .i64 (mr n j:Int)))/\w2.heap.size<=Fr.block):=(⟨k3,hF,hFb⟩:_/\_)
  clear k3 hF hFb;go_wp2_with fail;refine(HFD w3).mono ?_;rintro e w4 ⟨Gf,rfl,hG,k4,hGb⟩
  have HS:Hid (Kb 0 w0 w4/\Kb 0 w w4/\w4.cell? ⟨w.heap.size,0,none⟩=some (.slice (some A) np ca)/\w4.cell? ⟨w.heap.size+1,0,none⟩=some (.int .i64 a.o)/\w4.cell? ⟨w.heap.size+1,2,none⟩=some (.int .i64 a.b)/\(∀j,j<4->w4.cell? (Fr.add j)=some (.int .i64 (mr n j:Int)))/\(∀j,j<4->w4.cell? (Gf.add j)=some (.int .i64 (fld a j)))/\Fr.block≠q/\Gf.block≠q/\q<w.heap.size/\w0.heap.size<=q):=by
    obtain⟨b0,b1,k2,k0,hq1,hq0,hO,hqq⟩:=(uh HB)
    obtain⟨k3,hF,hFb⟩:=(uh HK3)
    have h23:=k2.size;have h33:=k3.size;have h34:=k4.size;exact(show Kb 0 w0 w4/\Kb 0 w w4/\w4.cell? ⟨w.heap.size,0,none⟩=some (.slice (some A) np ca)/\w4.cell? ⟨w.heap.size+1,0,none⟩=some (.int .i64 a.o)/\w4.cell? ⟨w.heap.size+1,2,none⟩=some (.int .i64 a.b)/\(∀j,j<4->w4.cell? (Fr.add j)=some (.int .i64 (mr n j:Int)))/\(∀j,j<4->w4.cell? (Gf.add j)=some (.int .i64 (fld a j)))/\Fr.block≠q/\Gf.block≠q/\q<w.heap.size/\w0.heap.size<=q from⟨((k0.trans k2).trans k3).trans k4,(k2.trans k3).trans k4,(k3.trans k4).cell (cell_of b0 rfl),(k3.trans k4).cell (cell_of b1 rfl),(k3.trans k4).cell (cell_of b1 rfl),λj hj=>k4.cell (hF j hj),hG,by omega,by omega,hq1,hq0⟩)
  have HST:Hid (RL a T base q vt w4 0 (.slice none 0 0) (.slice none 0 0) w4):=by
    obtain⟨b0,b1,k2,k0,hq1,hq0,hO,hqq⟩:=(uh HB)
    have k3:=(uh HK3).1;have kk:=(k2.trans k3).trans k4;have h44:=kk.size;refine⟨⟨T,[],[]⟩,rfl,?_⟩;have e:mk a 0 []=[]:=by unfold mk;simp
    rw[e];exact RM.start (hO.kb kk) hqq (by omega)
  clear HK3 HB i0 i1 i2 i3 i4 hG k4 HFD hGb;have e4:vt=.slice adt T.length capt:=HVT;subst e4;clear HVT;go_wp2_with fail
  go_loopw [10,11,30] (λs10 s11 s30 wr=>∃(j:Nat) (vk vs:Value),vk=s10/\vs=s11/\s30=.int .i64 j/\j<=4/\Hid (RL a T base q (.slice adt T.length capt) w4 j vk vs wr)) (λ_ _ s30 _=>4-(intOf s30).toNat)
  case atStart=>exact⟨0,_,_,rfl,rfl,rfl,Nat.zero_le _,HST⟩
  case round=>
    obtain⟨j,vk,vs,rfl,rfl,rfl,hj,HX⟩:=hrel;obtain⟨s,hs,hM⟩:=(uh HX)
    clear HX HST;obtain⟨k04,kw4,c0,i0,i2,hF,hG,hFq,hGq,hq1,hq0⟩:=(uh HS)
    obtain⟨h0,ht,hl,hg,hnp,hU,hn,n1,n42⟩:=(uh HY)
    rcases Nat.lt_or_ge j 4 with h|h
    · have hI:(j:Int)<4:=by omega
      obtain⟨hlt,hls,hlk⟩:=rdn_len j s hs;obtain⟨adk,capk,hvk⟩:=own_shape hM.tk;obtain⟨ads,caps,hvs⟩:=own_shape hM.st;have a1:=hM.kx.cellA (by rw[add_block];exact hGq) (hG j h);have hfr:∀W',Kx q w4 W'->W'.cell? (Fr.add j)=some (.int .i64 (mr n j:Int)):=λW' k=>k.cellA (by rw[add_block];exact hFq) (hF j h);have HFR:Hid (∀W',Kx q w4 W'->W'.cell? (Fr.add j)=some (.int .i64 (mr n j:Int))):=hfr;have a0:=hfr wr hM.kx.1;have hon:a.o.toNat=n:=by omega
      have hnx:=rdn_next hs;rw[hon]at hnx;have htk:=ht.2.2 j h;rw[hon]at htk;obtain⟨hrc,hr40,hr11⟩:=rc_all n (by omega) j h;have HWN:=λW=>sp_wants (mr n j) (cl_eq0 n (by omega) j h).2.2 W;have HKW:Hid (Kv (.slice adt T.length capt) q w wr):=(Kv.of_kb kw4).trans hM.kx;rcases hrc with⟨g1,g2⟩|hrc
      · have HN : Hid (RL a T base q (.slice adt T.length capt) w4 (j + 1) vk vs wr) := by
          refine⟨s,?_,?_⟩
          · rw[hnx];unfold rd1;rw[if_pos g1]
          · have e : mk a (j + 1) s.K = mk a j s.K := by
              unfold mk;by_cases e40:a.o=40
              · have : j ≠ 0 := fun e0 => by
                  have e1:n=40:=by omega
                  rw[e1,e0]at g1;exact absurd g1 (by decide)
                rw[if_pos ⟨e40,by omega⟩,if_pos ⟨e40,by omega⟩]
              · rw[if_neg (λq=>e40 q.1),if_neg (λq=>e40 q.1)]
            rw[e];exact hM
        rw[g2]at HWN;subst hvk hvs;clear hs hM k04 kw4 c0 i0 i2 hF hG hFq hGq hq1 hq0 h0 ht hl hg hnp hU hn n1 n42 hlt hls hlk hfr hon hnx htk hr40 hr11  g1 g2 HFR;generalize mr n j=m at*;generalize fld a j=x at*;generalize (wm m).2=op at*;go_wp2_with (go_at_call 64;refine(HWN _).mono ?_;rintro e w5 ⟨rfl,rfl⟩;clear HWN);go_roundw
        case rel=>exact⟨j+1,_,_,rfl,rfl,by go_num,by omega,HN⟩
        case measure=>simp[intOf];omega
      rcases hrc with⟨g1,g2,g3,g4,m18,m19,m20,g5⟩|hrc
      · obtain⟨wv,hwv⟩:∃wv,wv=(wm (mr n j)).1:=⟨_,rfl⟩
        rw[<-hwv]at g1 g4 HWN;rw[g3]at HWN;rw[g5]at htk
        have h40:a.o≠40:=λe=>by
          have e1:n=40:=by omega
          by_cases e0:j=0
          · rw[e1,e0]at g1;exact absurd g1 (by intro q;simp[pr,ptb,wts]at q)
          · rw[hr40 e1 e0]at g1;cases g1
        rw[mk_ne h40]at hM hvk;have e18:=bne (show((mr n j:Nat):Int)≠18 by omega);have e19:=bne (show((mr n j:Nat):Int)≠19 by omega);have e20:=bne (show((mr n j:Nat):Int)≠20 by omega);have gw0:=bne g4;have htk:-d.g<=fld a j/\fld a j<=d.g-1:=htk;obtain⟨x,hx⟩:∃x,x=fld a j:=⟨_,rfl⟩
        rw[<-hx]at htk a1 hnx;clear hwv g3 g5 m18 m19 m20 hx;by_cases hneg:x<0
        · obtain⟨k,hxk⟩:∃k:Nat,x=-1-(k:Int):=⟨(-1-x).toNat,by omega⟩
          have hrg:=rgt_neg hxk;rw[rd1_one g1 hrg.1]at hnx;subst hxk;obtain⟨bt,cap,y,e1,hcap,hy,cy,fz,hset⟩:=hM.setT (k:=k) (by omega)
          obtain⟨rfl,rfl⟩:adt=some bt/\capt=cap:=by
            have:=Value.slice.inj e1;exact⟨this.1,this.2.2⟩
          have kI:(k:Int)<(T.length:Int):=by omega
          have lI:(T.length:Int)<=250:=by omega
          have cI:(T.length:Int)<=(capt:Int):=by omega
          by_cases hyw:y=wv
          rotate_left
          · have hno:rdn a T (j+1)=none:=by rw[hnx,if_neg (λq=>hyw (by have:=q.1;rw[hy]at this;simpa using this))]
            have HZ:Hid (RdA F a T base q (.slice (some bt) T.length capt) w (.returned (.tuple #[.slice none 0 0,.bool false])) wr):=RdA.fail (rdp_fail (by omega) hno) HKW;have gy:=bne hyw;clear hs hM k04 kw4 c0 i0 i2 hF hG hFq hGq hq1 hq0 h0 ht hl hg hnp hU hn n1 n42 hlt hls hlk hfr hon hnx htk hr40 hr11 hno hset e1 hy hcap fz hrg h40 g1 g2 g4;subst hvk hvs;clear hyw HFR;generalize mr n j=m at*;generalize s.K.length=nk at*;generalize s.S.length=ns at*;go_upto_region 12 with(go_at_call 64;refine(HWN _).mono ?_;rintro e w5 ⟨rfl,hw5⟩;rw[hw5];clear hw5 w5 HWN);rw[show(-1:Int)-(-1-(k:Int))=(k:Int) by omega];go_wp2_with fail;refine bodyPost_ret (by simp[results,Tryz.results34,go_sem];rfl) rfl ?_;exact HZ
          · subst hyw;have gy:(y==y)=true:=by simp
            obtain⟨pS,cS,eS,-,rS⟩:=hM.st.rz
            have HRS:Hid (0<s.S.length->∃a:Addr,ads=some a/\∀t z,s.S[t]? =some z->wr.cell? (a.add t)=some (.int .i64 z)):=(λhp=>by
              rw[hvs]at eS;have:=Value.slice.inj eS;obtain⟨a',h1',_,h3'⟩:=rS hp
              exact⟨a',this.1.trans h1',h3'⟩:_->_)
            have HNO:Hid ((k:Int)∈ s.S->RdA F a T base q (.slice (some bt) T.length capt) w (.returned (.tuple #[.slice none 0 0,.bool false])) wr):=(λhin=>RdA.fail (rdp_fail (i:=j+1) (by omega) (by rw[hnx,if_neg (λq=>q.2 ⟨hneg,hin⟩)])) HKW:_->_)
            have HYES:Hid ((k:Int)∉ s.S->rdn a T (j+1)=some ⟨s.T.set k 0,s.S,s.K++[(k:Int)]⟩):=(λhin=>by rw[hnx,if_pos ⟨hy,λq=>hin q.2⟩,if_pos hneg]:_->_)
            have hM5:=hset wr (Kb.refl _ _) 0;have HM5:Hid (RM base q (.slice (some bt) T.length capt) w4 (s.T.set k 0) s.S s.K vk vs (wr.setCell (bt.add k) (.int .i64 0))):=hM5;have fzk:=fz k;have hsI:(s.S.length:Int)<=4:=by omega
            have HKL:Hid (s.K.length<=4/\a.o≠40):=(⟨by omega,h40⟩:_/\_)
            subst hvk hvs;clear hs hM k04 kw4 c0 i0 i2 hF hG hFq hGq hq1 hq0 h0 ht hl hg hnp hU hn n1 n42 hlt hls hlk hfr hon hnx htk hr40 hr11 hset e1 hy hcap fz eS rS hM5 hrg h40 g1 g2 g4 hneg;go_upto_region 12 with(go_at_call 64;refine(HWN _).mono ?_;rintro e w5 ⟨rfl,hw5⟩;rw[hw5];clear hw5 w5 HWN);rw[show(-1:Int)-(-1-(k:Int))=(k:Int) by omega];go_wp2_with fail
            go_loopw [66] (λs66 wz=>∃t:Nat,s66=.int .i64 t/\t<=s.S.length/\wz=wr/\Hid (∀y,y<t->s.S[y]? ≠some (k:Int))) (λs66 _=>s.S.length-(intOf s66).toNat)
            case atStart=>exact⟨0,rfl,Nat.zero_le _,rfl,(λy hy=>by omega:∀y,_)⟩
            case round=>
              obtain⟨t,rfl,ht,rfl,HT⟩:=hrel
              rename World=>w5
              rcases Nat.lt_or_ge t s.S.length with h|h
              · have hI2:(t:Int)<(s.S.length:Int):=by omega
                obtain⟨a',rfl,ra⟩:=(uh HRS) (by omega)
                obtain⟨z,hz⟩:∃z,s.S[t]? =some z:=⟨_,List.getElem?_eq_getElem h⟩
                have pz:=ra t z hz;by_cases c:z=(k:Int)
                · have HZ:Hid (RdA F a T base q (.slice (some bt) T.length capt) w (.returned (.tuple #[.slice none 0 0,.bool false])) w5):=(uh HNO) (by rw[<-c];exact List.mem_of_getElem? hz)
                  have gz:(z==(k:Int))=true:=beq1 c;clear HNO HYES HM5 HT ra hz c HRS HKL HFR;go_wp2_with fail;refine bodyPost_ret (by simp[results,Tryz.results34,go_sem];rfl) rfl ?_;exact HZ
                · have gz:=bne c
                  have HN:Hid (∀y,y<t+1->s.S[y]? ≠some (k:Int)):=(λy hy=>by
                    by_cases e:y=t
                    · subst e;rw[hz];simpa using c
                    · exact(uh HT) y (by omega):∀y,_)
                  clear HT ra hz c HRS;go_wp2_with fail;go_roundw
                  case rel=>exact⟨t+1,by go_num,by omega,by simp,HN⟩
                  case measure=>simp[intOf];omega
              · have hI2:¬(t:Int)<(s.S.length:Int):=by omega
                have hnin:(k:Int)∉ s.S:=λhin=>by
                  obtain⟨y,hy⟩:=List.getElem?_of_mem hin;exact(uh HT) y (by have:=(List.getElem?_eq_some_iff.1 hy).1;omega) hy
                have hY:=(uh HYES) hnin;have HY2:Hid (rdn a T (j+1)=some ⟨s.T.set k 0,s.S,s.K++[(k:Int)]⟩):=hY;clear HT HNO HYES HRS hnin hY h;go_upto_region 22 with fail;obtain⟨w6,hw6⟩:∃w6,w6=w5.setCell (bt.add k) (.int .i64 0):=⟨_,rfl⟩
                rw[<-hw6]at HM5⊢;clear cy fzk hw6;have hM6:=(uh HM5)
                have hkl:=(uh HKL)
                have howna:∀o,(w6.alloc o).ownsRow w4.heap.size 3 1 (.slice adk s.K.length capk) s.K.length (iv s.K):=λo=>World.ownsRow.alloc hM6.tk o;have hqc:=qr_cells w6 #[.int .i64 k] 3 [.int .i64 k] rfl;have h1c:∀u ∈ ([.int .i64 k]:List Value),u.oneCell'=true:=by intro u hu;simp at hu;subst hu;rfl
                have hs46:w4.heap.size<=w6.heap.size:=hM6.kx.size
                have HSTP:Hid (∀(E:Obj) (g c':Nat) (w7:World),w7.ownsRow w4.heap.size 3 1 (.slice (some ⟨g,0,none⟩) (s.K.length+1) c') (s.K.length+1) (iv s.K++[.int .i64 k])->(w6.alloc E).grownBy w7 (Value.slice adk s.K.length capk).ownBlock->((Value.slice adk s.K.length capk).ownBlock=some g\/g=w6.heap.size+1)->RL a T base q (.slice (some bt) T.length capt) w4 (j+1) (.slice (some ⟨g,0,none⟩) (s.K.length+1) c') (.slice ads s.S.length caps) w7/\w7.cell? (Fr.add j)=some (.int .i64 (mr n j:Int))):=(λE g c' w7 h1 h2 h3=>by
                  have hM7:=RM.appK hM6 (v':=.slice (some ⟨g,0,none⟩) (s.K.length+1) c') rfl rfl h1 h2 h3 (Nat.le_succ _);refine⟨⟨_,HY2,?_⟩,(uh HFR) w7 hM7.kx.1⟩;rw[mk_ne hkl.2]
                  exact hM7:∀(E:Obj),_)
                have hkI:(s.K.length:Int)<=4:=by omega
                obtain⟨i0,hi0,hz0,hzs,hzb⟩:=info_parts infoI;have HI0:Hid (Tryz.prog.info? 3=some i0):=hi0;clear hi0;clear hM6 HM5 HY2 HFR HKL hkl;generalize mr n j=m at*;go_wp2_with (at_builtin;refine wpList_append_lies _ rfl (.tmp 77) (.tmp 79) 53 rfl w4.heap.size 3 i0 (.int .i64 0) 1 8 Tryz.underlying53 HI0 hz0 hzs hzb rfl (by decide) _ _ _ rfl (howna _) ⟨w6.heap.size,0,none⟩ 1 1 [.int .i64 k] rfl rfl hqc h1c (by decide) (by unfold maxLen;omega) (by omega) (by rw[World.size_alloc];omega) (w6.heap.size+1) (by simp) ?_;intro g cap' w7 hown3 hgr3 hl3 _;obtain⟨z1,z2⟩:=(uh HSTP) _ _ _ _ hown3 hgr3 hl3;have HN:Hid (RL a T base q (.slice (some bt) T.length capt) w4 (j+1) (.slice (some ⟨g,0,none⟩) (s.K.length+1) cap') (.slice ads s.S.length caps) w7):=z1;clear z1 hown3 hgr3 hl3 howna hqc h1c HSTP a0);go_wp2_with fail
                go_loopw [21] (λs21 wz=>s21=.int .i64 1/\wz=w7) (λ_ _=>0)
                case atStart=>exact⟨rfl,rfl⟩
                case round=>
                  obtain⟨rfl,rfl⟩:=hrel;go_wp2_with fail;go_roundw
                  case rel=>exact⟨j+1,_,_,rfl,rfl,by go_num,by omega,HN⟩
                  case measure=>simp[intOf];omega
        · obtain⟨k,hxk⟩:∃k:Nat,x=(k:Int):=⟨x.toNat,by omega⟩
          have hrg:=rgt_pos hxk;rw[rd1_one g1 hrg.1]at hnx;subst hxk;obtain⟨bt,cap,y,e1,hcap,hy,cy,fz,hset⟩:=hM.setT (k:=k) (by omega)
          obtain⟨rfl,rfl⟩:adt=some bt/\capt=cap:=by
            have:=Value.slice.inj e1;exact⟨this.1,this.2.2⟩
          have kI:(k:Int)<(T.length:Int):=by omega
          have lI:(T.length:Int)<=250:=by omega
          have cI:(T.length:Int)<=(capt:Int):=by omega
          by_cases hyw:y=wv
          rotate_left
          · have hno:rdn a T (j+1)=none:=by rw[hnx,if_neg (λq=>hyw (by have:=q.1;rw[hy]at this;simpa using this))]
            have HZ:Hid (RdA F a T base q (.slice (some bt) T.length capt) w (.returned (.tuple #[.slice none 0 0,.bool false])) wr):=RdA.fail (rdp_fail (by omega) hno) HKW;have gy:=bne hyw;clear hs hM k04 kw4 c0 i0 i2 hF hG hFq hGq hq1 hq0 h0 ht hl hg hnp hU hn n1 n42 hlt hls hlk hfr hon hnx htk hr40 hr11 hno hset e1 hy hcap fz hrg h40 g1 g2 g4;subst hvk hvs;clear hyw HFR;generalize mr n j=m at*;generalize s.K.length=nk at*;generalize s.S.length=ns at*;go_wp2_with (go_at_call 64;refine(HWN _).mono ?_;rintro e w5 ⟨rfl,hw5⟩;rw[hw5];clear hw5 w5 HWN);refine bodyPost_ret (by simp[results,Tryz.results34,go_sem];rfl) rfl ?_;exact HZ
          · subst hyw;have gy:(y==y)=true:=by simp
            have HN:Hid (RL a T base q (.slice (some bt) T.length capt) w4 (j+1) vk vs wr):=⟨s,by rw[hnx,if_pos ⟨hy,λq=>hrg.2 q.1⟩,if_neg hrg.2,if_pos g2],by rw[mk_ne h40];exact hM⟩
            subst hvk hvs;clear hs hM k04 kw4 c0 i0 i2 hF hG hFq hGq hq1 hq0 h0 ht hl hg hnp hU hn n1 n42 hlt hls hlk hfr hon hnx htk hr40 hr11 hset e1 hy hcap fz hrg h40 g1 g2 g4 HFR;generalize mr n j=m at*;generalize s.K.length=nk at*;generalize s.S.length=ns at*;go_wp2_with (go_at_call 64;refine(HWN _).mono ?_;rintro e w5 ⟨rfl,hw5⟩;rw[hw5];clear hw5 w5 HWN);go_wp2_with fail
            go_loopw [21] (λs21 wz=>s21=.int .i64 1/\wz=wr) (λ_ _=>0)
            case atStart=>exact⟨rfl,rfl⟩
            case round=>
              obtain⟨rfl,rfl⟩:=hrel;go_wp2_with fail;go_roundw
              case rel=>exact⟨j+1,_,_,rfl,rfl,by go_num,by omega,HN⟩
              case measure=>simp[intOf];omega
      rcases hrc with⟨g1,g2,g3,g4,m18,m19,m20,g5⟩|hrc
      · obtain⟨wv,hwv⟩:∃wv,wv=(wm (mr n j)).1:=⟨_,rfl⟩
        rw[<-hwv]at g1 g4 HWN;rw[g3]at HWN;rw[g5]at htk
        have h40:a.o≠40:=λe=>by
          have e1:n=40:=by omega
          by_cases e0:j=0
          · rw[e1,e0]at g1;exact absurd g1 (by intro q;simp[pr,ptb,wts]at q)
          · rw[hr40 e1 e0]at g1;cases g1
        have e18:=bne (show((mr n j:Nat):Int)≠18 by omega);have e19:=bne (show((mr n j:Nat):Int)≠19 by omega);have e20:=bne (show((mr n j:Nat):Int)≠20 by omega);have gw0:=bne g4;have htk:0<=fld a j/\fld a j<=d.g-1:=htk;obtain⟨x,hx⟩:∃x,x=fld a j:=⟨_,rfl⟩
        rw[<-hx]at htk a1 hnx;clear hwv g3 g5 m18 m19 m20 hx;obtain⟨k,hxk⟩:∃k:Nat,x=(k:Int):=⟨x.toNat,by omega⟩
        have hrg:=rgt_pos hxk;rw[rd1_one g1 hrg.1]at hnx;subst hxk;obtain⟨bt,cap,y,e1,hcap,hy,cy,fz,hset⟩:=hM.setT (k:=k) (by omega)
        obtain⟨rfl,rfl⟩:adt=some bt/\capt=cap:=by
          have:=Value.slice.inj e1;exact⟨this.1,this.2.2⟩
        have kI:(k:Int)<(T.length:Int):=by omega
        have lI:(T.length:Int)<=250:=by omega
        have cI:(T.length:Int)<=(capt:Int):=by omega
        by_cases hyw:y=wv
        rotate_left
        · have hno:rdn a T (j+1)=none:=by rw[hnx,if_neg (λq=>hyw (by have:=q.1;rw[hy]at this;simpa using this))]
          have HZ:Hid (RdA F a T base q (.slice (some bt) T.length capt) w (.returned (.tuple #[.slice none 0 0,.bool false])) wr):=RdA.fail (rdp_fail (by omega) hno) HKW;have gy:=bne hyw;clear hs hM k04 kw4 c0 i0 i2 hF hG hFq hGq hq1 hq0 h0 ht hl hg hnp hU hn n1 n42 hlt hls hlk hfr hon hnx htk hr40 hr11 hno hset e1 hy hcap fz hrg h40 g1 g2 g4;subst hvk hvs;clear hyw HFR;generalize mr n j=m at*;go_wp2_with (go_at_call 64;refine(HWN _).mono ?_;rintro e w5 ⟨rfl,hw5⟩;rw[hw5];clear hw5 w5 HWN);refine bodyPost_ret (by simp[results,Tryz.results34,go_sem];rfl) rfl ?_;exact HZ
        · subst hyw;have gy:(y==y)=true:=by simp
          have HY2:Hid (rdn a T (j+1)=some ⟨s.T,s.S++[(k:Int)],s.K⟩/\mk a (j+1) s.K=mk a j s.K):=(⟨by rw[hnx,if_pos ⟨hy,λq=>hrg.2 q.1⟩,if_neg hrg.2,if_neg (by rw[g2];simp)],by rw[mk_ne h40,mk_ne h40]⟩:_/\_)
          subst hvk hvs;have howna:∀o,(wr.alloc o).ownsRow w4.heap.size 3 1 (.slice ads s.S.length caps) s.S.length (iv s.S):=λo=>World.ownsRow.alloc hM.st o;have hqc:=qr_cells wr #[.int .i64 k] 3 [.int .i64 k] rfl;have h1c:∀u ∈ ([.int .i64 k]:List Value),u.oneCell'=true:=by intro u hu;simp at hu;subst hu;rfl
          have hs46:w4.heap.size<=wr.heap.size:=hM.kx.size
          have HSTP:Hid (∀(E:Obj) (g c':Nat) (w7:World),w7.ownsRow w4.heap.size 3 1 (.slice (some ⟨g,0,none⟩) (s.S.length+1) c') (s.S.length+1) (iv s.S++[.int .i64 k])->(wr.alloc E).grownBy w7 (Value.slice ads s.S.length caps).ownBlock->((Value.slice ads s.S.length caps).ownBlock=some g\/g=wr.heap.size+1)->RM base q (.slice (some bt) T.length capt) w4 s.T (s.S++[(k:Int)]) (mk a j s.K) (.slice adk (mk a j s.K).length capk) (.slice (some ⟨g,0,none⟩) (s.S.length+1) c') w7/\w7.cell? (Fr.add j)=some (.int .i64 (mr n j:Int))):=(λE g c' w7 h1 h2 h3=>by
            have hM7:=RM.appS hM (v':=.slice (some ⟨g,0,none⟩) (s.S.length+1) c') rfl rfl h1 h2 h3 (Nat.le_succ _)
            exact⟨hM7,(uh HFR) w7 hM7.kx.1⟩:∀(E:Obj),_)
          have hsI:(s.S.length:Int)<=4:=by omega
          clear hs hM k04 kw4 c0 i0 i2 hF hG hFq hGq hq1 hq0 h0 ht hl hg hnp hU hn n1 n42 hlt hls hlk hfr hon hnx htk hr40 hr11 hset e1 hy hcap fz hrg h40 g1 g2 g4 HFR;obtain⟨i0,hi0,hz0,hzs,hzb⟩:=info_parts infoI;have HI0:Hid (Tryz.prog.info? 3=some i0):=hi0;clear hi0;generalize mr n j=m at*;go_wp2_with (first|(go_at_call 64;refine(HWN _).mono ?_;rintro e w5 ⟨rfl,hw5⟩;rw[hw5];clear hw5 w5 HWN)|(at_builtin;refine wpList_append_lies _ rfl (.tmp 83) (.tmp 85) 53 rfl w4.heap.size 3 i0 (.int .i64 0) 1 8 Tryz.underlying53 HI0 hz0 hzs hzb rfl (by decide) _ _ _ rfl (howna _) ⟨wr.heap.size,0,none⟩ 1 1 [.int .i64 k] rfl rfl hqc h1c (by decide) (by unfold maxLen;omega) (by omega) (by rw[World.size_alloc];omega) (wr.heap.size+1) (by simp) ?_;intro g cap' w7 hown3 hgr3 hl3 _;obtain⟨z1,z2⟩:=(uh HSTP) _ _ _ _ hown3 hgr3 hl3;have HM7:Hid (RM base q (.slice (some bt) T.length capt) w4 s.T (s.S++[(k:Int)]) (mk a j s.K) (.slice adk (mk a j s.K).length capk) (.slice (some ⟨g,0,none⟩) (s.S.length+1) cap') w7):=z1;clear z1 hown3 hgr3 hl3 howna hqc h1c HSTP a0));have HN:Hid (RL a T base q (.slice (some bt) T.length capt) w4 (j+1) (.slice adk (mk a j s.K).length capk) (.slice (some ⟨g,0,none⟩) (s.S.length+1) cap') w7):=⟨_,(uh HY2).1,by rw[(uh HY2).2];exact HM7⟩
          clear HY2 HM7;go_wp2_with fail
          go_loopw [21] (λs21 wz=>s21=.int .i64 1/\wz=w7) (λ_ _=>0)
          case atStart=>exact⟨rfl,rfl⟩
          case round=>
            obtain⟨rfl,rfl⟩:=hrel;go_wp2_with fail;go_roundw
            case rel=>exact⟨j+1,_,_,rfl,rfl,by go_num,by omega,HN⟩
            case measure=>simp[intOf];omega
      rcases hrc with⟨g1,g2⟩|hrc
      · rw[g1]at htk hnx;rw[g2]at HWN a0;simp only[show wm 18=(1,false)from rfl,show((18:Nat):Int)=18 from rfl]at HWN a0;have htk:0<=fld a j/\fld a j<=d.g-3:=htk
        have h40:a.o≠40:=λe=>by
          have e1:n=40:=by omega
          by_cases e0:j=0
          · rw[e1,e0]at g1;exact absurd g1 (by decide)
          · have:=hr40 e1 e0;rw[g1]at this;exact absurd this (by decide)
        obtain⟨x,hx⟩:∃x,x=fld a j:=⟨_,rfl⟩
        rw[<-hx]at htk a1 hnx;clear hx;obtain⟨k,hxk⟩:∃k:Nat,x=(k:Int):=⟨x.toNat,by omega⟩
        subst hxk;rw[rd1_more (by omega),show(wts 19).length=3 from rfl,show wts 19=[1,1,1]from rfl]at hnx;simp only[take3]at hnx;obtain⟨bt,cap,y,e1,hcap,hy,cy,fz,hset⟩:=hM.setT (k:=k) (by omega)
        obtain⟨rfl,rfl⟩:adt=some bt/\capt=cap:=by
          have:=Value.slice.inj e1;exact⟨this.1,this.2.2⟩
        have kI:(k:Int)<(T.length:Int):=by omega
        have lI:(T.length:Int)<=250:=by omega
        have cI:(T.length:Int)<=(capt:Int):=by omega
        have HNO:Hid (∀W',Kv (.slice (some bt) T.length capt) q w4 W'->¬(s.T[k]? =some 1/\s.T[k+1]? =some 1/\s.T[k+2]? =some 1)->RdA F a T base q (.slice (some bt) T.length capt) w (.returned (.tuple #[.slice none 0 0,.bool false])) W'):=(λW' kx c=>RdA.fail (rdp_fail (i:=j+1) (by omega) (by rw[hnx,if_neg c])) ((Kv.of_kb kw4).trans kx):∀W',_)
        by_cases hyw:y=1
        rotate_left
        · have HZ:Hid (RdA F a T base q (.slice (some bt) T.length capt) w (.returned (.tuple #[.slice none 0 0,.bool false])) wr):=(uh HNO) wr hM.kx (λq=>hyw (by have:=q.1;rw[hy]at this;simpa using this));have gy:=bne hyw;subst hvk hvs;clear hs hM k04 kw4 c0 i0 i2 hF hG hFq hGq hq1 hq0 h0 ht hl hg hnp hU hn n1 n42 hlt hls hlk hfr hon hnx htk hr40 hr11 hset e1 hy hcap fz h40 g1 g2 HFR hyw HNO;go_wp2_with (go_at_call 64;refine(HWN _).mono ?_;rintro e w5 ⟨rfl,hw5⟩;rw[hw5];clear hw5 w5 HWN);refine bodyPost_ret (by simp[results,Tryz.results34,go_sem];rfl) rfl ?_;exact HZ
        · subst hyw;have HY2:Hid (((s.T[k]? =some 1/\s.T[k+1]? =some 1/\s.T[k+2]? =some 1)->rdn a T (j+1)=some ⟨s.T,s.S++[(k:Int)],s.K⟩)/\mk a (j+1) s.K=mk a j s.K/\s.T[k]? =some 1/\s.T.length=T.length):=(⟨λc=>by rw[hnx,if_pos c],by rw[mk_ne h40,mk_ne h40],hy,hlt⟩:_/\_)
          have kDI:(k:Int)+2<(T.length:Int):=by omega
          subst hvk hvs;have HFR0:=HFR;clear HFR;have HFR:Hid (∀W',Kx q w4 W'->W'.cell? (Fr.add j)=some (.int .i64 (mr n j:Int))):=HFR0;clear HFR0;have howna:∀o,(wr.alloc o).ownsRow w4.heap.size 3 1 (.slice ads s.S.length caps) s.S.length (iv s.S):=λo=>World.ownsRow.alloc hM.st o;have hqc:=qr_cells wr #[.int .i64 k] 3 [.int .i64 k] rfl;have h1c:∀u ∈ ([.int .i64 k]:List Value),u.oneCell'=true:=by intro u hu;simp at hu;subst hu;rfl
          have hs46:w4.heap.size<=wr.heap.size:=hM.kx.size
          have HSTP:Hid (∀(E:Obj) (g c':Nat) (w7:World),w7.ownsRow w4.heap.size 3 1 (.slice (some ⟨g,0,none⟩) (s.S.length+1) c') (s.S.length+1) (iv s.S++[.int .i64 k])->(wr.alloc E).grownBy w7 (Value.slice ads s.S.length caps).ownBlock->((Value.slice ads s.S.length caps).ownBlock=some g\/g=wr.heap.size+1)->RM base q (.slice (some bt) T.length capt) w4 s.T (s.S++[(k:Int)]) (mk a j s.K) (.slice adk (mk a j s.K).length capk) (.slice (some ⟨g,0,none⟩) (s.S.length+1) c') w7/\w7.cell? (Fr.add j)=some (.int .i64 (mr n j:Int))):=(λE g c' w7 h1 h2 h3=>by
            have hM7:=RM.appS hM (v':=.slice (some ⟨g,0,none⟩) (s.S.length+1) c') rfl rfl h1 h2 h3 (Nat.le_succ _)
            exact⟨hM7,(uh HFR) w7 hM7.kx.1⟩:∀(E:Obj),_)
          have hsI:(s.S.length:Int)<=4:=by omega
          clear hs hM k04 kw4 c0 i0 i2 hF hG hFq hGq hq1 hq0 h0 ht hl hg hnp hU hn n1 n42 hlt hls hlk hfr hon hnx htk hr40 hr11 hset e1 hy hcap fz h40 g1 HFR;obtain⟨i0,hi0,hz0,hzs,hzb⟩:=info_parts infoI;have HI0:Hid (Tryz.prog.info? 3=some i0):=hi0;clear hi0;rw[g2,show((18:Nat):Int)=18 from rfl]at HSTP;clear g2;go_wp2_with (first|(go_at_call 64;refine(HWN _).mono ?_;rintro e w5 ⟨rfl,hw5⟩;rw[hw5];clear hw5 w5 HWN)|(at_builtin;refine wpList_append_lies _ rfl (.tmp 83) (.tmp 85) 53 rfl w4.heap.size 3 i0 (.int .i64 0) 1 8 Tryz.underlying53 HI0 hz0 hzs hzb rfl (by decide) _ _ _ rfl (howna _) ⟨wr.heap.size,0,none⟩ 1 1 [.int .i64 k] rfl rfl hqc h1c (by decide) (by unfold maxLen;omega) (by omega) (by rw[World.size_alloc];omega) (wr.heap.size+1) (by simp) ?_;intro g cap' w7 hown3 hgr3 hl3 _;obtain⟨z1,z2⟩:=(uh HSTP) _ _ _ _ hown3 hgr3 hl3;have HM7:Hid (RM base q (.slice (some bt) T.length capt) w4 s.T (s.S++[(k:Int)]) (mk a j s.K) (.slice adk (mk a j s.K).length capk) (.slice (some ⟨g,0,none⟩) (s.S.length+1) cap') w7):=z1;clear z1 hown3 hgr3 hl3 howna hqc h1c HSTP a0));have hM7:=(uh HM7)
          obtain⟨pT,cT,eT,-,rT⟩:=hM7.ty.rz
          have HRT:Hid (∀t z,s.T[t]? =some z->w7.cell? (bt.add t)=some (.int .i64 z)):=(λt z hz=>by
            obtain⟨a',h1',_,h3'⟩:=rT (by have:=(List.getElem?_eq_some_iff.1 hz).1;omega);have e5:some bt=pT:=(Value.slice.inj eT).1;have e6:bt=a':=by rw[h1']at e5;simpa using e5
            rw[e6];exact h3' t z hz:∀t z,_)
          clear hM7 eT rT cy;go_wp2_with fail
          go_loopw [21] (λs21 wz=>∃t:Nat,s21=.int .i64 t/\1<=t/\t<=3/\wz=w7/\Hid (∀e,1<=e->e<t->s.T[k+e]? =some 1)) (λs21 _=>3-(intOf s21).toNat)
          case atStart=>exact⟨1,rfl,Nat.le_refl _,by omega,rfl,(λe h1 h2=>by omega:∀e,_)⟩
          case round=>
            obtain⟨t,rfl,ht1,ht2,rfl,HT⟩:=hrel
            rename World=>w7
            by_cases htd:t<=2
            · have hI2:(t:Int)<=2:=by omega
              have hlt:=(uh HY2).2.2.2;obtain⟨z,hz⟩:∃z,s.T[k+t]? =some z:=⟨_,List.getElem?_eq_getElem (by omega)⟩
              obtain⟨X,hX⟩:∃X:Nat,X=k+t:=⟨_,rfl⟩
              have pz:=(uh HRT) (k+t) z hz;have pz2:w7.cell? (bt.add ((k:Int)+(t:Int)).toNat)=some (.int .i64 z):=by rw[show((k:Int)+(t:Int)).toNat=k+t by omega];exact pz
              have x0:0<=(k:Int)+(t:Int):=by omega
              have x1:(k:Int)+(t:Int)<(T.length:Int):=by omega
              by_cases c:z=1
              · have HN : Hid (∀ e, 1 ≤ e → e < t + 1 → s.T[k + e]? = some 1) := (fun e h1 h2 => by
                  by_cases ee:e=t
                  · subst ee;rw[hz,c]
                  · exact(uh HT) e h1 (by omega):∀e,_)
                have gz:(z==1)=true:=beq1 c;clear HT hz c hX hlt;go_wp2_with fail;go_roundw
                case rel=>exact⟨t+1,by go_num,by omega,by omega,by simp,HN⟩
                case measure=>simp[intOf];omega
              · have HZ : Hid (RdA F a T base q (.slice (some bt) T.length capt) w (.returned (.tuple #[.slice none 0 0, .bool false])) w7) := (uh HNO) w7 (uh HM7).kx (fun q => c (by
                  rcases(by omega:t=1\/t=2)with rfl|rfl
                  · have:=q.2.1;rw[hz]at this;simpa using this
                  · have:=q.2.2;rw[hz]at this;simpa using this))
                have gz:=bne c;clear HT hz c hX hlt HNO HM7 HRT HY2;go_wp2_with fail;refine bodyPost_ret (by simp[results,Tryz.results34,go_sem];rfl) rfl ?_;exact HZ
            · have hI2:¬(t:Int)<=2:=by omega
              have hA:=(uh HT)
              have hY:=(uh HY2)
              have HN:Hid (RL a T base q (.slice (some bt) T.length capt) w4 (j+1) (.slice adk (mk a j s.K).length capk) (.slice (some ⟨g,0,none⟩) (s.S.length+1) cap') w7):=⟨_,hY.1 ⟨hY.2.2.1,hA 1 (by omega) (by omega),hA 2 (by omega) (by omega)⟩,by rw[hY.2.1];exact HM7⟩
              clear hA hY HT HNO HM7 HRT HY2;go_wp2_with fail;go_roundw
              case rel=>exact⟨j+1,_,_,rfl,rfl,by go_num,by omega,HN⟩
              case measure=>simp[intOf];omega
      rcases hrc with⟨g1,g2⟩|hrc
      · rw[g1]at htk hnx;rw[g2]at HWN a0;simp only[show wm 20=(1,false)from rfl,show((20:Nat):Int)=20 from rfl]at HWN a0;have htk:0<=fld a j/\fld a j<=d.g-2:=htk
        have h40:a.o≠40:=λe=>by
          have e1:n=40:=by omega
          by_cases e0:j=0
          · rw[e1,e0]at g1;exact absurd g1 (by decide)
          · have:=hr40 e1 e0;rw[g1]at this;exact absurd this (by decide)
        obtain⟨x,hx⟩:∃x,x=fld a j:=⟨_,rfl⟩
        rw[<-hx]at htk a1 hnx;clear hx;obtain⟨k,hxk⟩:∃k:Nat,x=(k:Int):=⟨x.toNat,by omega⟩
        subst hxk;rw[rd1_more (by omega),show(wts 20).length=2 from rfl,show wts 20=[1,1]from rfl]at hnx;simp only[take2]at hnx;obtain⟨bt,cap,y,e1,hcap,hy,cy,fz,hset⟩:=hM.setT (k:=k) (by omega)
        obtain⟨rfl,rfl⟩:adt=some bt/\capt=cap:=by
          have:=Value.slice.inj e1;exact⟨this.1,this.2.2⟩
        have kI:(k:Int)<(T.length:Int):=by omega
        have lI:(T.length:Int)<=250:=by omega
        have cI:(T.length:Int)<=(capt:Int):=by omega
        have HNO:Hid (∀W',Kv (.slice (some bt) T.length capt) q w4 W'->¬(s.T[k]? =some 1/\s.T[k+1]? =some 1)->RdA F a T base q (.slice (some bt) T.length capt) w (.returned (.tuple #[.slice none 0 0,.bool false])) W'):=(λW' kx c=>RdA.fail (rdp_fail (i:=j+1) (by omega) (by rw[hnx,if_neg c])) ((Kv.of_kb kw4).trans kx):∀W',_)
        by_cases hyw:y=1
        rotate_left
        · have HZ:Hid (RdA F a T base q (.slice (some bt) T.length capt) w (.returned (.tuple #[.slice none 0 0,.bool false])) wr):=(uh HNO) wr hM.kx (λq=>hyw (by have:=q.1;rw[hy]at this;simpa using this));have gy:=bne hyw;subst hvk hvs;clear hs hM k04 kw4 c0 i0 i2 hF hG hFq hGq hq1 hq0 h0 ht hl hg hnp hU hn n1 n42 hlt hls hlk hfr hon hnx htk hr40 hr11 hset e1 hy hcap fz h40 g1 g2 HFR hyw HNO;go_wp2_with (go_at_call 64;refine(HWN _).mono ?_;rintro e w5 ⟨rfl,hw5⟩;rw[hw5];clear hw5 w5 HWN);refine bodyPost_ret (by simp[results,Tryz.results34,go_sem];rfl) rfl ?_;exact HZ
        · subst hyw;have HY2:Hid (((s.T[k]? =some 1/\s.T[k+1]? =some 1)->rdn a T (j+1)=some ⟨s.T,s.S++[(k:Int)],s.K⟩)/\mk a (j+1) s.K=mk a j s.K/\s.T[k]? =some 1/\s.T.length=T.length):=(⟨λc=>by rw[hnx,if_pos c],by rw[mk_ne h40,mk_ne h40],hy,hlt⟩:_/\_)
          have kDI:(k:Int)+1<(T.length:Int):=by omega
          subst hvk hvs;have HFR0:=HFR;clear HFR;have HFR:Hid (∀W',Kx q w4 W'->W'.cell? (Fr.add j)=some (.int .i64 (mr n j:Int))):=HFR0;clear HFR0;have howna:∀o,(wr.alloc o).ownsRow w4.heap.size 3 1 (.slice ads s.S.length caps) s.S.length (iv s.S):=λo=>World.ownsRow.alloc hM.st o;have hqc:=qr_cells wr #[.int .i64 k] 3 [.int .i64 k] rfl;have h1c:∀u ∈ ([.int .i64 k]:List Value),u.oneCell'=true:=by intro u hu;simp at hu;subst hu;rfl
          have hs46:w4.heap.size<=wr.heap.size:=hM.kx.size
          have HSTP:Hid (∀(E:Obj) (g c':Nat) (w7:World),w7.ownsRow w4.heap.size 3 1 (.slice (some ⟨g,0,none⟩) (s.S.length+1) c') (s.S.length+1) (iv s.S++[.int .i64 k])->(wr.alloc E).grownBy w7 (Value.slice ads s.S.length caps).ownBlock->((Value.slice ads s.S.length caps).ownBlock=some g\/g=wr.heap.size+1)->RM base q (.slice (some bt) T.length capt) w4 s.T (s.S++[(k:Int)]) (mk a j s.K) (.slice adk (mk a j s.K).length capk) (.slice (some ⟨g,0,none⟩) (s.S.length+1) c') w7/\w7.cell? (Fr.add j)=some (.int .i64 (mr n j:Int))):=(λE g c' w7 h1 h2 h3=>by
            have hM7:=RM.appS hM (v':=.slice (some ⟨g,0,none⟩) (s.S.length+1) c') rfl rfl h1 h2 h3 (Nat.le_succ _)
            exact⟨hM7,(uh HFR) w7 hM7.kx.1⟩:∀(E:Obj),_)
          have hsI:(s.S.length:Int)<=4:=by omega
          clear hs hM k04 kw4 c0 i0 i2 hF hG hFq hGq hq1 hq0 h0 ht hl hg hnp hU hn n1 n42 hlt hls hlk hfr hon hnx htk hr40 hr11 hset e1 hy hcap fz h40 g1 HFR;obtain⟨i0,hi0,hz0,hzs,hzb⟩:=info_parts infoI;have HI0:Hid (Tryz.prog.info? 3=some i0):=hi0;clear hi0;rw[g2,show((20:Nat):Int)=20 from rfl]at HSTP;clear g2;go_wp2_with (first|(go_at_call 64;refine(HWN _).mono ?_;rintro e w5 ⟨rfl,hw5⟩;rw[hw5];clear hw5 w5 HWN)|(at_builtin;refine wpList_append_lies _ rfl (.tmp 83) (.tmp 85) 53 rfl w4.heap.size 3 i0 (.int .i64 0) 1 8 Tryz.underlying53 HI0 hz0 hzs hzb rfl (by decide) _ _ _ rfl (howna _) ⟨wr.heap.size,0,none⟩ 1 1 [.int .i64 k] rfl rfl hqc h1c (by decide) (by unfold maxLen;omega) (by omega) (by rw[World.size_alloc];omega) (wr.heap.size+1) (by simp) ?_;intro g cap' w7 hown3 hgr3 hl3 _;obtain⟨z1,z2⟩:=(uh HSTP) _ _ _ _ hown3 hgr3 hl3;have HM7:Hid (RM base q (.slice (some bt) T.length capt) w4 s.T (s.S++[(k:Int)]) (mk a j s.K) (.slice adk (mk a j s.K).length capk) (.slice (some ⟨g,0,none⟩) (s.S.length+1) cap') w7):=z1;clear z1 hown3 hgr3 hl3 howna hqc h1c HSTP a0));have hM7:=(uh HM7)
          obtain⟨pT,cT,eT,-,rT⟩:=hM7.ty.rz
          have HRT:Hid (∀t z,s.T[t]? =some z->w7.cell? (bt.add t)=some (.int .i64 z)):=(λt z hz=>by
            obtain⟨a',h1',_,h3'⟩:=rT (by have:=(List.getElem?_eq_some_iff.1 hz).1;omega);have e5:some bt=pT:=(Value.slice.inj eT).1;have e6:bt=a':=by rw[h1']at e5;simpa using e5
            rw[e6];exact h3' t z hz:∀t z,_)
          clear hM7 eT rT cy;go_wp2_with fail
          go_loopw [21] (λs21 wz=>∃t:Nat,s21=.int .i64 t/\1<=t/\t<=2/\wz=w7/\Hid (∀e,1<=e->e<t->s.T[k+e]? =some 1)) (λs21 _=>2-(intOf s21).toNat)
          case atStart=>exact⟨1,rfl,Nat.le_refl _,by omega,rfl,(λe h1 h2=>by omega:∀e,_)⟩
          case round=>
            obtain⟨t,rfl,ht1,ht2,rfl,HT⟩:=hrel
            rename World=>w7
            by_cases htd:t<=1
            · have hI2:(t:Int)<=1:=by omega
              have hlt:=(uh HY2).2.2.2;obtain⟨z,hz⟩:∃z,s.T[k+t]? =some z:=⟨_,List.getElem?_eq_getElem (by omega)⟩
              obtain⟨X,hX⟩:∃X:Nat,X=k+t:=⟨_,rfl⟩
              have pz:=(uh HRT) (k+t) z hz;have pz2:w7.cell? (bt.add ((k:Int)+(t:Int)).toNat)=some (.int .i64 z):=by rw[show((k:Int)+(t:Int)).toNat=k+t by omega];exact pz
              have x0:0<=(k:Int)+(t:Int):=by omega
              have x1:(k:Int)+(t:Int)<(T.length:Int):=by omega
              by_cases c:z=1
              · have HN : Hid (∀ e, 1 ≤ e → e < t + 1 → s.T[k + e]? = some 1) := (fun e h1 h2 => by
                  by_cases ee:e=t
                  · subst ee;rw[hz,c]
                  · exact(uh HT) e h1 (by omega):∀e,_)
                have gz:(z==1)=true:=beq1 c;clear HT hz c hX hlt;go_wp2_with fail;go_roundw
                case rel=>exact⟨t+1,by go_num,by omega,by omega,by simp,HN⟩
                case measure=>simp[intOf];omega
              · have HZ : Hid (RdA F a T base q (.slice (some bt) T.length capt) w (.returned (.tuple #[.slice none 0 0, .bool false])) w7) := (uh HNO) w7 (uh HM7).kx (fun q => c (by
                  rcases(by omega:t=1)with rfl;have:=q.2;rw[hz]at this;simpa using this
                  ))
                have gz:=bne c;clear HT hz c hX hlt HNO HM7 HRT HY2;go_wp2_with fail;refine bodyPost_ret (by simp[results,Tryz.results34,go_sem];rfl) rfl ?_;exact HZ
            · have hI2:¬(t:Int)<=1:=by omega
              have hA:=(uh HT)
              have hY:=(uh HY2)
              have HN:Hid (RL a T base q (.slice (some bt) T.length capt) w4 (j+1) (.slice adk (mk a j s.K).length capk) (.slice (some ⟨g,0,none⟩) (s.S.length+1) cap') w7):=⟨_,hY.1 ⟨hY.2.2.1,hA 1 (by omega) (by omega)⟩,by rw[hY.2.1];exact HM7⟩
              clear hA hY HT HNO HM7 HRT HY2;go_wp2_with fail;go_roundw
              case rel=>exact⟨j+1,_,_,rfl,rfl,by go_num,by omega,HN⟩
              case measure=>simp[intOf];omega
      obtain⟨g1,g2,g3,g6⟩:=hrc;rw[g1]at htk hnx;rw[g2]at HWN a0;simp only[show wm 19=(1,false)from rfl,show((19:Nat):Int)=19 from rfl]at HWN a0;have htk:0<=fld a j/\fld a j<=d.g-2:=htk;have hxa:fld a j=a.a:=by rw[g6];rfl
      have e40:a.o=40:=by omega
      have hmk:mk a (j+1) s.K=mk a j s.K++[a.a]:=by
        unfold mk;rw[if_pos ⟨e40,by omega⟩,if_neg (λq=>by have:=q.2;omega)]
        simp
      rw[hxa]at htk a1 hnx;obtain⟨k,hxk⟩:∃k:Nat,a.a=(k:Int):=⟨a.a.toNat,by omega⟩
      rw[hxk]at htk a1 hnx hmk;rw[rd1_more (by omega),show(wts 21).length=2 from rfl,show wts 21=[1,0]from rfl]at hnx;simp only[take2]at hnx;obtain⟨bt,cap,y,e1,hcap,hy,cy,fz,hset⟩:=hM.setT (k:=k) (by omega)
      obtain⟨rfl,rfl⟩:adt=some bt/\capt=cap:=by
        have:=Value.slice.inj e1;exact⟨this.1,this.2.2⟩
      have kI:(k:Int)<(T.length:Int):=by omega
      have lI:(T.length:Int)<=250:=by omega
      have cI:(T.length:Int)<=(capt:Int):=by omega
      have HNO:Hid (∀W',Kv (.slice (some bt) T.length capt) q w4 W'->¬(s.T[k]? =some 1/\s.T[k+1]? =some 0)->RdA F a T base q (.slice (some bt) T.length capt) w (.returned (.tuple #[.slice none 0 0,.bool false])) W'):=(λW' kx c=>RdA.fail (rdp_fail (i:=j+1) (by omega) (by rw[hnx,if_neg c])) ((Kv.of_kb kw4).trans kx):∀W',_)
      by_cases hyw:y=1
      rotate_left
      · have HZ:Hid (RdA F a T base q (.slice (some bt) T.length capt) w (.returned (.tuple #[.slice none 0 0,.bool false])) wr):=(uh HNO) wr hM.kx (λq=>hyw (by have:=q.1;rw[hy]at this;simpa using this));have gy:=bne hyw;subst hvk hvs;clear hs hM k04 kw4 c0 i0 i2 hF hG hFq hGq hq1 hq0 h0 ht hl hg hnp hU hn n1 n42 hlt hls hlk hfr hon hnx htk hr40 hr11 hset e1 hy hcap fz g1 g2 HFR hyw HNO hxa e40 hmk hxk g3 g6;go_wp2_with (go_at_call 64;refine(HWN _).mono ?_;rintro e w5 ⟨rfl,hw5⟩;rw[hw5];clear hw5 w5 HWN);refine bodyPost_ret (by simp[results,Tryz.results34,go_sem];rfl) rfl ?_;exact HZ
      · subst hyw;have HY2:Hid (((s.T[k]? =some 1/\s.T[k+1]? =some 0)->rdn a T (j+1)=some ⟨s.T,s.S++[(k:Int)],s.K⟩)/\mk a (j+1) s.K=mk a j s.K++[(k:Int)]/\s.T[k]? =some 1/\s.T.length=T.length/\s.K.length<=4):=(⟨λc=>by rw[hnx,if_pos c],hmk,hy,hlt,by omega⟩:_/\_)
        have HL4:Hid ((mk a j s.K).length<=4):=by
          show(mk a j s.K).length<=4;unfold mk;rw[if_neg (λq=>by have:=q.2;omega)]
          simp;omega
        have x0:0<=(k:Int)+1:=by omega
        have x1:(k:Int)+1<(T.length:Int):=by omega
        subst hvk hvs;have howna:∀o,(wr.alloc o).ownsRow w4.heap.size 3 1 (.slice ads s.S.length caps) s.S.length (iv s.S):=λo=>World.ownsRow.alloc hM.st o;have hqc:=qr_cells wr #[.int .i64 k] 3 [.int .i64 k] rfl;have h1c:∀u ∈ ([.int .i64 k]:List Value),u.oneCell'=true:=by intro u hu;simp at hu;subst hu;rfl
        have hs46:w4.heap.size<=wr.heap.size:=hM.kx.size
        have HSTP:Hid (∀(E:Obj) (g c':Nat) (w7:World),w7.ownsRow w4.heap.size 3 1 (.slice (some ⟨g,0,none⟩) (s.S.length+1) c') (s.S.length+1) (iv s.S++[.int .i64 k])->(wr.alloc E).grownBy w7 (Value.slice ads s.S.length caps).ownBlock->((Value.slice ads s.S.length caps).ownBlock=some g\/g=wr.heap.size+1)->RM base q (.slice (some bt) T.length capt) w4 s.T (s.S++[(k:Int)]) (mk a j s.K) (.slice adk (mk a j s.K).length capk) (.slice (some ⟨g,0,none⟩) (s.S.length+1) c') w7/\w7.cell? (Fr.add j)=some (.int .i64 (mr n j:Int))):=(λE g c' w7 h1 h2 h3=>by
          have hM7:=RM.appS hM (v':=.slice (some ⟨g,0,none⟩) (s.S.length+1) c') rfl rfl h1 h2 h3 (Nat.le_succ _)
          exact⟨hM7,(uh HFR) w7 hM7.kx.1⟩:∀(E:Obj),_)
        have hsI:(s.S.length:Int)<=4:=by omega
        clear hs hM k04 kw4 c0 i0 i2 hF hG hFq hGq hq1 hq0 h0 ht hl hg hnp hU hn n1 n42 hlt hls hlk hfr hon hnx htk hr40 hr11 hset e1 hy hcap fz g1 HFR hxa e40 hmk hxk g3 g6;obtain⟨i0,hi0,hz0,hzs,hzb⟩:=info_parts infoI;have HI0:Hid (Tryz.prog.info? 3=some i0):=hi0;clear hi0;rw[g2,show((19:Nat):Int)=19 from rfl]at HSTP;clear g2;go_wp2_with (first|(go_at_call 64;refine(HWN _).mono ?_;rintro e w5 ⟨rfl,hw5⟩;rw[hw5];clear hw5 w5 HWN)|(at_builtin;refine wpList_append_lies _ rfl (.tmp 83) (.tmp 85) 53 rfl w4.heap.size 3 i0 (.int .i64 0) 1 8 Tryz.underlying53 HI0 hz0 hzs hzb rfl (by decide) _ _ _ rfl (howna _) ⟨wr.heap.size,0,none⟩ 1 1 [.int .i64 k] rfl rfl hqc h1c (by decide) (by unfold maxLen;omega) (by omega) (by rw[World.size_alloc];omega) (wr.heap.size+1) (by simp) ?_;intro g cap' w7 hown3 hgr3 hl3 _;obtain⟨z1,z2⟩:=(uh HSTP) _ _ _ _ hown3 hgr3 hl3;have HM7:Hid (RM base q (.slice (some bt) T.length capt) w4 s.T (s.S++[(k:Int)]) (mk a j s.K) (.slice adk (mk a j s.K).length capk) (.slice (some ⟨g,0,none⟩) (s.S.length+1) cap') w7):=z1;clear z1 hown3 hgr3 hl3 howna hqc h1c HSTP a0));have hM7:=(uh HM7)
        obtain⟨pT,cT,eT,-,rT⟩:=hM7.ty.rz;have hY:=(uh HY2)
        obtain⟨z,hz⟩:∃z,s.T[k+1]? =some z:=⟨_,List.getElem?_eq_getElem (by omega)⟩
        have pz:w7.cell? (bt.add ((k:Int)+1).toNat)=some (.int .i64 z):=by
          obtain⟨a',h1',_,h3'⟩:=rT (by omega);have e5:some bt=pT:=(Value.slice.inj eT).1;have e6:bt=a':=by rw[h1']at e5;simpa using e5
          rw[e6,show((k:Int)+1).toNat=k+1 by omega];exact h3' (k+1) z hz
        obtain⟨k1,hk1⟩:∃k1:Nat,(k:Int)=(k1:Int)-1:=⟨k+1,by omega⟩
        have HK1:Hid ((k:Int)=(k1:Int)-1):=hk1;have pz1:w7.cell? (bt.add k1)=some (.int .i64 z):=by rw[show((k:Int)+1).toNat=k1 by omega]at pz;exact pz
        have x3:(k1:Int)<(T.length:Int):=by omega
        clear pz x0 x1 hk1;clear eT rT cy;go_wp2_with fail
        go_loopw [21] (λs21 wz=>s21=.int .i64 1/\wz=w7) (λ_ _=>0)
        case atStart=>exact⟨rfl,rfl⟩
        case round=>
          obtain⟨rfl,rfl⟩:=hrel
          rename World=>w7
          by_cases c:z=0
          rotate_left
          · have HZ:Hid (RdA F a T base q (.slice (some bt) T.length capt) w (.returned (.tuple #[.slice none 0 0,.bool false])) w7):=(uh HNO) w7 hM7.kx (λq=>c (by have:=q.2;rw[hz]at this;simpa using this));have gz:=bne c;clear hz c HNO HM7 HY2 hM7 hY HL4;go_upto_region 36 with fail;rw[(uh HK1)];go_wp2_with fail;refine bodyPost_ret (by simp[results,Tryz.results34,go_sem];rfl) rfl ?_;exact HZ
          · subst c;go_upto_region 36 with fail;rw[(uh HK1)];go_upto_region 38 with fail;rw[<-(uh HK1)];have hyes:=hY.1 ⟨hY.2.2.1,hz⟩;have hl4:=(uh HL4)
            have howna:∀o,(w7.alloc o).ownsRow w4.heap.size 3 1 (.slice adk (mk a j s.K).length capk) (mk a j s.K).length (iv (mk a j s.K)):=λo=>World.ownsRow.alloc hM7.tk o;have hqc:=qr_cells w7 #[.int .i64 k] 3 [.int .i64 k] rfl;have h1c:∀u ∈ ([.int .i64 k]:List Value),u.oneCell'=true:=by intro u hu;simp at hu;subst hu;rfl
            have hs47:w4.heap.size<=w7.heap.size:=hM7.kx.size
            have HSTP:Hid (∀(E:Obj) (g' c':Nat) (w8:World),w8.ownsRow w4.heap.size 3 1 (.slice (some ⟨g',0,none⟩) ((mk a j s.K).length+1) c') ((mk a j s.K).length+1) (iv (mk a j s.K)++[.int .i64 k])->(w7.alloc E).grownBy w8 (Value.slice adk (mk a j s.K).length capk).ownBlock->((Value.slice adk (mk a j s.K).length capk).ownBlock=some g'\/g'=w7.heap.size+1)->RL a T base q (.slice (some bt) T.length capt) w4 (j+1) (.slice (some ⟨g',0,none⟩) ((mk a j s.K).length+1) c') (.slice (some ⟨g,0,none⟩) (s.S.length+1) cap') w8):=(λE g' c' w8 h1 h2 h3=>by
              have hM8:=RM.appK hM7 (v':=.slice (some ⟨g',0,none⟩) ((mk a j s.K).length+1) c') rfl rfl h1 h2 h3 (Nat.le_succ _)
              exact⟨_,hyes,by rw[hY.2.1];exact hM8⟩:∀(E:Obj),_)
            obtain⟨nk,hnk⟩:∃nk,nk=(mk a j s.K).length:=⟨_,rfl⟩
            rw[<-hnk]at HSTP howna hl4⊢;have hkI:(nk:Int)<=4:=by omega
            clear hz HNO HM7 HY2 hM7 hY HL4 hyes hnk;go_wp2_with (at_builtin;refine wpList_append_lies _ rfl (.tmp 120) (.tmp 122) 53 rfl w4.heap.size 3 i0 (.int .i64 0) 1 8 Tryz.underlying53 HI0 hz0 hzs hzb rfl (by decide) _ _ _ rfl (howna _) ⟨w7.heap.size,0,none⟩ 1 1 [.int .i64 k] rfl rfl hqc h1c (by decide) (by unfold maxLen;omega) (by omega) (by rw[World.size_alloc];omega) (w7.heap.size+1) (by simp) ?_;intro g' cap2 w8 hown3 hgr3 hl3 _;have z1:=(uh HSTP) _ _ _ _ hown3 hgr3 hl3;have HN:Hid (RL a T base q (.slice (some bt) T.length capt) w4 (j+1) (.slice (some ⟨g',0,none⟩) (nk+1) cap2) (.slice (some ⟨g,0,none⟩) (s.S.length+1) cap') w8):=z1;clear z1 hown3 hgr3 hl3 howna hqc h1c HSTP);go_roundw
            case rel=>exact⟨j+1,_,_,rfl,rfl,by go_num,by omega,HN⟩
            case measure=>simp[intOf];omega
    · have hI:¬(j:Int)<4:=by omega
      have hj4:j=4:=by omega
      subst hj4;have hs4:rd a T=some s:=hs;obtain⟨adk,capk,hvk⟩:=own_shape hM.tk;obtain⟨ads,caps,hvs⟩:=own_shape hM.st;have i0r:=hM.kx.cellA (by show w.heap.size+1≠q;omega) i0;have kz:Kb 0 w0 wr:=Kx.kb k04 hM.kx.1 hq0
      have HGOOD:Hid (∀W',Kb 0 wr W'->RdP F a T->RdA F a T base q (.slice adt T.length capt) w (.returned (.tuple #[vk,.bool true])) W'):=(λW' kk hP=>⟨vk,by rw[dc_t hP],((Kv.of_kb kw4).trans hM.kx).trans (Kv.of_kb kk),λs' _ hs'=>by
        rw[hs4]at hs';cases hs'
        exact⟨hM.ty.kb kk,(hM.tk.kb kk).rz.imp (λb _ hb=>Nat.le_trans kw4.size hb),⟨adk,_,capk,hvk⟩⟩⟩:∀W',_)
      by_cases e11:a.o=11
      rotate_left
      · have g11:=bne e11;have HZ:Hid (RdA F a T base q (.slice adt T.length capt) w (.returned (.tuple #[vk,.bool true])) wr):=(uh HGOOD) wr (Kb.refl _ _) ⟨λq=>absurd q e11,s,hs4⟩;subst hvk hvs;clear hs hM k04 kw4 c0 i0 i2 hF hG hFq hGq hq1 hq0 h0 ht hl hg hnp hU hn n1 n42 hs4 kz HGOOD e11;generalize (mk a 4 s.K).length=nk at*;generalize s.S.length=ns at*;go_wp2_with fail;refine bodyPost_ret (by simp[results,Tryz.results34,go_sem];rfl) rfl ?_;exact HZ
      · have htk:=ht.2.2 1 (by omega);rw[show a.o.toNat=11 by omega]at htk;have htk:0<=a.b/\a.b<=(np:Int)-1:=htk;obtain⟨kb,hkb⟩:∃kb:Nat,a.b=(kb:Int):=⟨a.b.toNat,by omega⟩
        have hkn:kb<np:=by omega
        have ebt:a.b.toNat=kb:=by omega
        have hs11:=rd_11 T e11;obtain rfl:s=⟨T,[],[]⟩:=by rw[hs4]at hs11;simpa using hs11
        obtain⟨hu1,hu2⟩:=hU e11;rw[ebt]at hu1 hu2;have c0r:=hM.kx.cellA (by show w.heap.size≠q;omega) c0;have i2r:=hM.kx.cellA (by show w.heap.size+1≠q;omega) i2;rw[hkb]at i2r;rw[e11]at i0r;obtain⟨vu,vc,vn,vd,hcel,hru,-,-,-⟩:=(h0 kb hkn).keep zq kz;have u5:=hcel.c5;obtain⟨ku,cu,rfl,hru2⟩:=hru
        have HRU:Hid (0<(F kb).u->∃b:Addr,ku=some b/\∀i,i<(F kb).u->UpC 0 wr (b.add (i*2)) ((F kb).U i)):=(λhp=>by
          obtain⟨b,e1,_,_,e3⟩:=hru2 hp
          exact⟨b,e1,e3⟩:_->_)
        have HPB:Hid ((∀t,t<(F kb).u->(((F kb).U t).1=true->T.getD ((F kb).U t).2.toNat 0=2))↔RdP F a T):=(⟨λq=>⟨λ_ t ht=>by rw[ebt]at ht⊢;exact q t ht,_,hs4⟩,λq t ht=>by have:=q.1 e11 t (by rw[ebt];exact ht);rw[ebt]at this;exact this⟩:_↔_)
        have HTY:Hid (∀t,t<(F kb).u->((F kb).U t).1=true->∃(kk:Nat) (bt:Addr),((F kb).U t).2=(kk:Int)/\kk<T.length/\adt=some bt/\T.length<=capt/\wr.cell? (bt.add kk)=some (.int .i64 (T.getD kk 0))):=(λt ht hloc=>by
          have h9:=hu2 t ht;rw[if_pos hloc]at h9;obtain⟨bt,cap,y,e1,hcap,hy,cy,fz,hset⟩:=hM.setT (k:=((F kb).U t).2.toNat) (by show((F kb).U t).2.toNat<T.length;omega);have e2:=Value.slice.inj e1;refine⟨((F kb).U t).2.toNat,bt,by omega,by omega,e2.1,by rw[e2.2.2];exact hcap,?_⟩;have e3:T.getD ((F kb).U t).2.toNat 0=y:=by rw[List.getD_eq_getElem?_getD,show T[((F kb).U t).2.toNat]? =some y from hy];rfl
          rw[e3];exact cy:∀t,_)
        have huI:((F kb).u:Int)<=1048576:=by omega
        have hkI:(kb:Int)<(np:Int):=by omega
        have hnI:(np:Int)<=1048576:=by omega
        have tlI:(T.length:Int)<=250:=by omega
        have HBAD:Hid (∀W',Kb 0 wr W'->¬RdP F a T->RdA F a T base q (.slice adt T.length capt) w (.returned (.tuple #[.slice none 0 0,.bool false])) W'):=(λW' kk c=>RdA.fail c (((Kv.of_kb kw4).trans hM.kx).trans (Kv.of_kb kk)):∀W',_)
        subst hvk hvs;clear hs hM k04 kw4 c0 i0 i2 hF hG hFq hGq hq1 hq0 h0 ht hl hg hnp hU hn n1 n42 hs4 kz htk hkb hs11 hcel hru2 hu1 hu2 hkn ebt e11;generalize (mk a 4 (⟨T,[],[]⟩:Rs).K).length=nk at*;generalize (⟨T,[],[]⟩:Rs).S.length=ns at*;generalize hEe:F kb=E at*;go_wp2_with fail
        go_loopw [136] (λsl wz=>∃t:Nat,sl=.int .i64 t/\t<=E.u/\Hid (Kb 0 wr wz/\∀y,y<t->(E.U y).1=true->T.getD (E.U y).2.toNat 0=2)) (λsl _=>E.u-(intOf sl).toNat)
        case atStart=>exact⟨0,rfl,Nat.zero_le _,(⟨Kb.refl _ _,λy hy=>by omega⟩:_/\_)⟩
        case round=>
          obtain⟨t,rfl,ht,HT⟩:=hrel
          rename World=>wz
          obtain⟨kz,hT⟩:=(uh HT)
          rcases Nat.lt_or_ge t E.u with h|h
          · have hI2:(t:Int)<(E.u:Int):=by omega
            obtain⟨bu,rfl,hrb⟩:=(uh HRU) (by omega)
            obtain⟨q0,q1⟩:=(hrb t h).keep zq kz;have hty:=(uh HTY) t h
            have hgood:((E.U t).1=true->T.getD (E.U t).2.toNat 0=2)->∀o,Kb 0 wr (wz.alloc o)/\∀y,y<t+1->(E.U y).1=true->T.getD (E.U y).2.toNat 0=2:=λc o=>⟨kz.alloc o,λy hy=>by
              by_cases ey:y=t
              · subst ey;exact c
              · exact hT y (by omega)⟩
            have hbad:¬((E.U t).1=true->T.getD (E.U t).2.toNat 0=2)->∀o,RdA F a T base q (.slice adt T.length capt) w (.returned (.tuple #[.slice none 0 0,.bool false])) (wz.alloc o):=λc o=>(uh HBAD) _ (kz.alloc o) (λq=>c ((uh HPB).2 q t h));have hcw:∀(b:Addr) v,wr.cell? b=some v->∀o,(wz.alloc o).cell? b=some v:=λb v hb o=>(kz.alloc o).cell hb;clear HT hT kz hrb HRU HTY HBAD;generalize E.U t=ut at*;obtain⟨xl,xi⟩:=ut;dsimp only at q0 q1 hgood hbad hty;cases xl with
            |false=>
              have HN:Hid (∀o,Kb 0 wr (wz.alloc o)/\∀y,y<t+1->(E.U y).1=true->T.getD (E.U y).2.toNat 0=2):=hgood (λq=>by cases q);clear hgood hbad hty hcw;go_wp2_with fail;go_roundw
              case rel=>exact⟨t+1,by go_num,by omega,(uh HN) _⟩
              case measure=>simp[intOf];omega
            |true=>
              obtain⟨kk,bt,rfl,hk1,rfl,hcap,cy⟩:=hty rfl;have cy':=hcw _ _ cy;have k1:(kk:Int)<(T.length:Int):=by omega
              have k2:(T.length:Int)<=(capt:Int):=by omega
              simp only[show((kk:Int)).toNat=kk from rfl]at hgood hbad;generalize T.getD kk 0=z at*;by_cases c:z=2
              · have HN:Hid (∀o,Kb 0 wr (wz.alloc o)/\∀y,y<t+1->(E.U y).1=true->T.getD (E.U y).2.toNat 0=2):=hgood (λ_=>c);have gz:(z==2)=true:=beq1 c;clear hgood hbad hcw cy hk1 hcap c;go_wp2_with fail;go_roundw
                case rel=>exact⟨t+1,by go_num,by omega,(uh HN) _⟩
                case measure=>simp[intOf];omega
              · have HZ:Hid (∀o,RdA F a T base q (.slice (some bt) T.length capt) w (.returned (.tuple #[.slice none 0 0,.bool false])) (wz.alloc o)):=hbad (λq=>c (q (by first|rfl|trivial)));have gz:=bne c;clear hgood hbad hcw cy hk1 hcap c;go_wp2_with fail;refine bodyPost_ret (by simp[results,Tryz.results34,go_sem];rfl) rfl ?_;exact(uh HZ) _
          · have hI2:¬(t:Int)<(E.u:Int):=by omega
            have HZ:Hid (RdA F a T base q (.slice adt T.length capt) w (.returned (.tuple #[.slice adk nk capk,.bool true])) wz):=(uh HGOOD) wz kz ((uh HPB).1 (λy hy=>hT y (by omega)));clear HT hT kz HRU HTY HBAD HGOOD HPB;go_wp2_with fail;refine bodyPost_ret (by simp[results,Tryz.results34,go_sem];rfl) rfl ?_;exact HZ
