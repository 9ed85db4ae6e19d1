import Derived.Test.YtohbcpfjjimdnaaGreatDoorMTma
set_option maxHeartbeats 32000000
namespace Go.Proofs.YtohbcpfjjimdnaaGreatDoor.Fo
open Go.ChangeShapes Go.WideShapes Go.ChangeAt Go.RowKit
set_option linter.unusedVariables false
set_option maxRecDepth 100000
variable {av:Nat->Prop}{vg:Value}{G:List Gv}
def KC(a:Iv)(G:List Gv)(K A B:List Int)(j:Nat)(g:Gv):Prop:=(∀k,k ∈ K->g.2.1<=k)/\(¬(a.o=32/\j+1=G.length)->∀r:Nat,(r:Int)<g.2.1->A[r]? =B[r]?)
def KI(a:Iv)(G:List Gv)(K A B:List Int)(i:Nat):Prop:=∀j g,j<i->G[j]? =some g->g.1=true->KC a G K A B j g
def KeptP(a:Iv)(G:List Gv)(K A B:List Int):Prop:=KI a G K A B G.length
theorem sp_kept{bv:Nat->Prop}{vk va vb:Value}{K A B:List Int}(a:Iv)(w:World)(h1:Rg av w vg G)(h2:Rz bv w vk K)(h3:Rz av w va A)(h4:Rz bv w vb B)(hn:G.length<=1000/\K.length<=1000/\A.length<=1000/\B.length=A.length)(hg:∀g,g ∈ G->0<=g.2.1/\g.2.1<=(A.length:Int)):
    Calls Tryz.prog 37 #[.agg #[.int .i64 a.o,.int .i64 a.a,.int .i64 a.b,.int .i64 a.c,.int .i64 a.d],vg,vk,va,vb] w λe w'=>e=.returned (.bool (dc (KeptP a G K A B)))/\Kb 0 w w':=by
  obtain⟨pg,cg,rfl,-,r1⟩:=h1;obtain⟨pk,ck,rfl,-,r2⟩:=h2;obtain⟨pa,ca,rfl,-,r3⟩:=h3;obtain⟨pb,cb,rfl,-,r4⟩:=h4;have HA:Hid ((0<G.length->∃a:Addr,pg=some a/\av a.block/\∀j x,G[j]? =some x->CelG w (a.add (j*3)) x)/\(0<K.length->∃a:Addr,pk=some a/\bv a.block/\∀j x,K[j]? =some x->w.cell? (a.add j)=some (.int .i64 x))/\(0<A.length->∃a:Addr,pa=some a/\av a.block/\∀j x,A[j]? =some x->w.cell? (a.add j)=some (.int .i64 x))/\(0<B.length->∃a:Addr,pb=some a/\bv a.block/\∀j x,B[j]? =some x->w.cell? (a.add j)=some (.int .i64 x))):=(⟨r1,r2,r3,r4⟩:_/\_)
  have hnI:(G.length:Int)<=1000:=by omega
  have hkI:(K.length:Int)<=1000:=by omega
  have haI:(A.length:Int)<=1000:=by omega
  rw[hn.2.2.2];have HG:Hid ((∀g,g ∈ G->0<=g.2.1/\g.2.1<=(A.length:Int))/\B.length=A.length):=(⟨hg,hn.2.2.2⟩:_/\_)
  obtain⟨R,hR⟩:∃R,R=dc (KeptP a G K A B):=⟨_,rfl⟩
  rw[<-hR];have HR:Hid (R=dc (KeptP a G K A B)):=hR;obtain⟨w2,hw2⟩:∃w2,w2=w.alloc (.cells #[.int .i64 a.o,.int .i64 a.a,.int .i64 a.b,.int .i64 a.c,.int .i64 a.d] 79):=⟨_,rfl⟩
  have c0:w2.cell? ⟨w.heap.size,0,none⟩=some (.int .i64 a.o):=by rw[hw2];exact cell_of (alloc_new _ _ _) rfl
  have HK2:Hid (Kb 0 w w2):=by rw[hw2];exact kb_alloc _ _ _
  have HW:Hid (w2=_):=hw2;clear hR hw2 r1 r2 r3 r4 hn hg;go_enter Tryz.func37,Tryz.ntmps37;go_wp2_with fail;rw[<-(uh HW)];clear HW
  go_loopw [18] (λsl wr=>∃i:Nat,sl=.int .i64 i/\i<=G.length/\Hid (Kb 0 w2 wr/\KI a G K A B i)) (λsl _=>G.length-(intOf sl).toNat)
  case atStart=>exact⟨0,rfl,Nat.zero_le _,(⟨Kb.refl _ _,λj g h=>by omega⟩:_/\_)⟩
  case round=>
    obtain⟨i,rfl,hi,HX⟩:=hrel
    rename World=>w4
    obtain⟨kw,hX⟩:=(uh HX)
    clear HX;rcases Nat.lt_or_ge i G.length with h|h
    · have hI:(i:Int)<(G.length:Int):=by omega
      obtain⟨⟨ag,rfl,-,rg⟩,A2,A3,A4⟩:(∃a:Addr,pg=some a/\av a.block/\∀j x,G[j]? =some x->CelG w (a.add (j*3)) x)/\_/\_/\_:=⟨HA.1 (by omega),HA.2.1,HA.2.2.1,HA.2.2.2⟩
      obtain⟨x,hx⟩:∃x,G[i]? =some x:=⟨_,List.getElem?_eq_getElem h⟩
      have kww:=(uh HK2).trans kw;have q0:=kww.cell (rg i x hx).c0;have q1:=kww.cell (rg i x hx).c1;have q2:=kww.cell (rg i x hx).c2;obtain⟨hx0,hx1⟩:=(uh HG).1 x (List.mem_of_getElem? hx)
      have HGOOD:Hid ((x.1=true->KC a G K A B i x)->KI a G K A B (i+1)):=(λc j g hj hg=>by
        by_cases e:j=i
        · subst e;rw[hx]at hg;cases hg;exact c
        · exact hX j g (by omega) hg:_->_)
      have HBAD:Hid (x.1=true->¬KC a G K A B i x->R=false):=(λc1 c2=>by rw[(uh HR)];exact dc_f (λq=>c2 (q i x (List.getElem?_eq_some_iff.1 hx).1 hx c1)):_->_->_)
      have o0:∀o,(w4.alloc o).cell? ⟨w.heap.size,0,none⟩=some (.int .i64 a.o):=λo=>(kw.alloc o).cell c0;have HKW:Hid (Kb 0 w2 w4/\Kb 0 w w4):=(⟨kw,kww⟩:_/\_)
      have HX1:Hid (0<=x.2.1/\x.2.1<=(A.length:Int)):=(⟨hx0,hx1⟩:_/\_)
      clear hX kw kww rg hx h A2 A3 A4 hx0 hx1;obtain⟨x1,x2,x3⟩:=x;dsimp only at q0 q1 q2;cases x1 with
      |false=>
        have HN:Hid (∀o,Kb 0 w2 (w4.alloc o)/\KI a G K A B (i+1)):=(λo=>⟨HKW.1.alloc o,HGOOD (λe=>by cases e)⟩:∀o,_)
        clear HGOOD HBAD;go_wp2_with fail;go_roundw
        case rel=>exact⟨i+1,by go_num,by omega,(uh HN) _⟩
        case measure=>simp[intOf];omega
      |true=>
        have HBADT:Hid (¬KC a G K A B i (true,x2,x3)->R=false):=HBAD rfl;have HGOODT:Hid (KC a G K A B i (true,x2,x3)->KI a G K A B (i+1)):=(λq=>HGOOD (λ_=>q):_->_)
        clear HBAD HGOOD;obtain⟨w5,hw5⟩:∃w5,w5=w4.alloc (.cells #[.bool true,.int .i64 x2,.int .i64 x3] 62):=⟨_,rfl⟩
        obtain⟨s4,hs4⟩:∃s4,s4=w4.heap.size:=⟨_,rfl⟩
        have d1:w5.cell? ⟨s4,1,none⟩=some (.int .i64 x2):=by rw[hw5,hs4];exact cell_of (alloc_new _ _ _) rfl
        have d0:w5.cell? ⟨w.heap.size,0,none⟩=some (.int .i64 a.o):=by rw[hw5];exact o0 _
        have HKW5:Hid (Kb 0 w2 w5/\Kb 0 w w5):=by rw[hw5];exact⟨HKW.1.alloc _,HKW.2.alloc _⟩
        have HW5:Hid (w5=_):=hw5;have HS4:Hid (s4=w4.heap.size):=hs4;clear hw5 hs4 o0 HKW;go_wp2_with fail;rw[<-(uh HS4),<-(uh HW5)];clear HW5 HS4 q0 q1 q2
        go_loopw [28] (λsl wr=>∃t:Nat,sl=.int .i64 t/\t<=K.length/\wr=w5/\Hid (∀y k,y<t->K[y]? =some k->x2<=k)) (λsl _=>K.length-(intOf sl).toNat)
        case atStart=>exact⟨0,rfl,Nat.zero_le _,rfl,(λy k hy=>by omega:∀y k,_)⟩
        case round=>
          obtain⟨t,rfl,ht,rfl,HT⟩:=hrel
          rename World=>w5
          rcases Nat.lt_or_ge t K.length with h|h
          · have hI2:(t:Int)<(K.length:Int):=by omega
            obtain⟨ak,rfl,-,rk⟩:=(show 0<K.length->∃a:Addr,pk=some a/\bv a.block/\∀j x,K[j]? =some x->w.cell? (a.add j)=some (.int .i64 x)from HA.2.1) (by omega)
            obtain⟨k,hk⟩:∃k,K[t]? =some k:=⟨_,List.getElem?_eq_getElem h⟩
            have p0:=HKW5.2.cell (rk t k hk);by_cases c:k<x2
            · have hF:=(uh HBADT) (λq=>by have:=q.1 k (List.mem_of_getElem? hk);simp only at this;omega)
              subst hF;clear HGOODT HBADT HR rk hk HT;go_wp2_with fail;go_ret;exact⟨rfl,HKW5.2⟩
            · have HN : Hid (∀ y k, y < t + 1 → K[y]? = some k → x2 ≤ k) := (fun y k' hy hk' => by
                by_cases e:y=t
                · subst e;rw[hk]at hk';cases hk';omega
                · exact(uh HT) y k' (by omega) hk':∀y k,_)
              clear rk hk HT;go_wp2_with fail;go_roundw
              case rel=>exact⟨t+1,by go_num,by omega,by simp,HN⟩
              case measure=>simp[intOf];omega
          · have hI2:¬(t:Int)<(K.length:Int):=by omega
            have HKK:Hid (∀k,k ∈ K->x2<=k):=(λk hk=>by
              obtain⟨y,hy⟩:=List.getElem?_of_mem hk
              exact(uh HT) y k (by have:=(List.getElem?_eq_some_iff.1 hy).1;omega) hy:∀k,_)
            clear HT;by_cases c:a.o=32/\i+1=G.length
            · have HN:Hid (Kb 0 w2 w5/\KI a G K A B (i+1)):=(⟨HKW5.1,(uh HGOODT) ⟨HKK,λq=>absurd c q⟩⟩:_/\_)
              have g1:(a.o==32)=true:=beq1 c.1;have g2:((i:Int)==(G.length:Int)-1)=true:=beq1 (by omega);clear HGOODT HBADT c HKK;go_wp2_with fail;go_roundw
              case rel=>exact⟨i+1,by go_num,by omega,HN⟩
              case measure=>simp[intOf];omega
            · have g1 : (a.o == 32 && (i : Int) == (G.length : Int) - 1) = false := by
                rw[Bool.and_eq_false_iff];by_cases q:a.o=32
                · exact .inr (bne (λq2=>c ⟨q,by omega⟩))
                · exact .inl (bne q)
              have HC:Hid (¬(a.o=32/\i+1=G.length)):=c;have g2:a.o=32->((i:Int)==(G.length:Int)-1)=false:=λq=>bne (λq2=>c ⟨q,by omega⟩);by_cases c3:a.o=32
              · have g3:(a.o==32)=true:=beq1 c3;have g4:=g2 c3;clear c g1 g2;go_wp2_with fail
                go_loopw [15] (λsl wr=>∃r:Nat,sl=.int .i64 r/\(r:Int)<=x2/\Hid (Kb 0 w5 wr/\∀y,y<r->A[y]? =B[y]?)) (λsl _=>x2.toNat-(intOf sl).toNat)
                case atStart=>exact⟨0,rfl,HX1.1,(⟨Kb.refl _ _,λy hy=>by omega⟩:_/\_)⟩
                case round=>
                  obtain⟨r,rfl,hr,HT⟩:=hrel
                  rename World=>w6
                  obtain⟨k6,hT⟩:=(uh HT)
                  have d1':=k6.cell d1;obtain⟨u0,u1⟩:=(uh HX1)
                  by_cases h:(r:Int)<x2
                  · obtain⟨aa,rfl,-,ra⟩:=(show 0<A.length->∃a:Addr,pa=some a/\av a.block/\∀j x,A[j]? =some x->w.cell? (a.add j)=some (.int .i64 x)from HA.2.2.1) (by omega)
                    obtain⟨ab,rfl,-,rb⟩:=(show 0<B.length->∃a:Addr,pb=some a/\bv a.block/\∀j x,B[j]? =some x->w.cell? (a.add j)=some (.int .i64 x)from HA.2.2.2) (by have:=HG.2;omega)
                    obtain⟨y1,hy1⟩:∃y,A[r]? =some y:=⟨_,List.getElem?_eq_getElem (by omega)⟩
                    obtain⟨y2,hy2⟩:∃y,B[r]? =some y:=⟨_,List.getElem?_eq_getElem (by have:=HG.2;omega)⟩
                    have p1:=(HKW5.2.trans k6).cell (ra r y1 hy1);have p2:=(HKW5.2.trans k6).cell (rb r y2 hy2);have rI:(r:Int)<(A.length:Int):=by omega
                    by_cases e:y1=y2
                    · have HN : Hid (∀ m, Kb 0 w5 (w6.drewN m) ∧ ∀ y, y < r + 1 → A[y]? = B[y]?) := (fun m => ⟨k6.drewN m, fun y hy => by
                        by_cases ey:y=r
                        · subst ey;rw[hy1,hy2,e]
                        · exact hT y (by omega)⟩:∀m,_)
                      have g5:(y1==y2)=true:=beq1 e;clear HT hT k6 ra rb hy1 hy2 HGOODT HBADT HKK;go_wp2_with fail
                      go_quiet (skip)
                      go_wp2_with fail;go_roundw
                      case rel=>exact⟨r+1,by go_num,by omega,(uh HN) _⟩
                      case measure=>simp[intOf];omega
                    · have hF:=(uh HBADT) (λq=>e (by have:=q.2 HC r h;rw[hy1,hy2]at this;simpa using this))
                      have g5:(y1==y2)=false:=bne e;have HN:Hid (∀m,Kb 0 w (w6.drewN m)):=(λm=>(HKW5.2.trans k6).drewN m:∀m,_)
                      subst hF;clear HT hT k6 ra rb hy1 hy2 HGOODT HBADT HKK HR HKW5;go_wp2_with fail
                      go_quiet (skip)
                      go_wp2_with fail;go_ret;exact⟨rfl,(uh HN) _⟩
                  · have HN:Hid (Kb 0 w2 w6/\KI a G K A B (i+1)):=(⟨HKW5.1.trans k6,(uh HGOODT) ⟨HKK,λ_ y hy=>hT y (by simp only at hy;omega)⟩⟩:_/\_)
                    clear HT hT k6 HGOODT HBADT HKK HKW5 HX1 u0 u1;go_wp2_with fail;go_roundw
                    case rel=>first|exact⟨i+1,by go_num,by omega,HN⟩|exact⟨_,_,_,_,_,_,⟨i+1,by go_num,by omega,HN⟩,rfl,rfl,rfl,rfl,rfl,rfl⟩
                    case measure=>simp[intOf];omega
              · have g3:(a.o==32)=false:=bne c3;clear c g1 g2;go_wp2_with fail
                go_loopw [15] (λsl wr=>∃r:Nat,sl=.int .i64 r/\(r:Int)<=x2/\Hid (Kb 0 w5 wr/\∀y,y<r->A[y]? =B[y]?)) (λsl _=>x2.toNat-(intOf sl).toNat)
                case atStart=>exact⟨0,rfl,HX1.1,(⟨Kb.refl _ _,λy hy=>by omega⟩:_/\_)⟩
                case round=>
                  obtain⟨r,rfl,hr,HT⟩:=hrel
                  rename World=>w6
                  obtain⟨k6,hT⟩:=(uh HT)
                  have d1':=k6.cell d1;obtain⟨u0,u1⟩:=(uh HX1)
                  by_cases h:(r:Int)<x2
                  · obtain⟨aa,rfl,-,ra⟩:=(show 0<A.length->∃a:Addr,pa=some a/\av a.block/\∀j x,A[j]? =some x->w.cell? (a.add j)=some (.int .i64 x)from HA.2.2.1) (by omega)
                    obtain⟨ab,rfl,-,rb⟩:=(show 0<B.length->∃a:Addr,pb=some a/\bv a.block/\∀j x,B[j]? =some x->w.cell? (a.add j)=some (.int .i64 x)from HA.2.2.2) (by have:=HG.2;omega)
                    obtain⟨y1,hy1⟩:∃y,A[r]? =some y:=⟨_,List.getElem?_eq_getElem (by omega)⟩
                    obtain⟨y2,hy2⟩:∃y,B[r]? =some y:=⟨_,List.getElem?_eq_getElem (by have:=HG.2;omega)⟩
                    have p1:=(HKW5.2.trans k6).cell (ra r y1 hy1);have p2:=(HKW5.2.trans k6).cell (rb r y2 hy2);have rI:(r:Int)<(A.length:Int):=by omega
                    by_cases e:y1=y2
                    · have HN : Hid (∀ m, Kb 0 w5 (w6.drewN m) ∧ ∀ y, y < r + 1 → A[y]? = B[y]?) := (fun m => ⟨k6.drewN m, fun y hy => by
                        by_cases ey:y=r
                        · subst ey;rw[hy1,hy2,e]
                        · exact hT y (by omega)⟩:∀m,_)
                      have g5:(y1==y2)=true:=beq1 e;clear HT hT k6 ra rb hy1 hy2 HGOODT HBADT HKK;go_wp2_with fail
                      go_quiet (skip)
                      go_wp2_with fail;go_roundw
                      case rel=>exact⟨r+1,by go_num,by omega,(uh HN) _⟩
                      case measure=>simp[intOf];omega
                    · have hF:=(uh HBADT) (λq=>e (by have:=q.2 HC r h;rw[hy1,hy2]at this;simpa using this))
                      have g5:(y1==y2)=false:=bne e;have HN:Hid (∀m,Kb 0 w (w6.drewN m)):=(λm=>(HKW5.2.trans k6).drewN m:∀m,_)
                      subst hF;clear HT hT k6 ra rb hy1 hy2 HGOODT HBADT HKK HR HKW5;go_wp2_with fail
                      go_quiet (skip)
                      go_wp2_with fail;go_ret;exact⟨rfl,(uh HN) _⟩
                  · have HN:Hid (Kb 0 w2 w6/\KI a G K A B (i+1)):=(⟨HKW5.1.trans k6,(uh HGOODT) ⟨HKK,λ_ y hy=>hT y (by simp only at hy;omega)⟩⟩:_/\_)
                    clear HT hT k6 HGOODT HBADT HKK HKW5 HX1 u0 u1;go_wp2_with fail;go_roundw
                    case rel=>first|exact⟨i+1,by go_num,by omega,HN⟩|exact⟨_,_,_,_,_,_,⟨i+1,by go_num,by omega,HN⟩,rfl,rfl,rfl,rfl,rfl,rfl⟩
                    case measure=>simp[intOf];omega
    · have hI:¬(i:Int)<(G.length:Int):=by omega
      have hT:R=true:=by
        rw[(uh HR)];exact dc_t (λj g hj hg=>hX j g (by omega) hg)
      subst hT;have HK:Hid (Kb 0 w w4):=(uh HK2).trans kw;clear hX kw HA HR;go_wp2_with fail;go_ret;exact⟨rfl,HK⟩
def ChA(a:Iv)(G:List Gv)(w:World)(e:Ending)(w':World):Prop:=∃pv n c,e=.returned (.tuple #[.slice pv n c,.bool (dc (gfit a G))])/\(gfit a G->Rg (λk=>w.heap.size<=k) w' (.slice pv n c) (gbh a G))/\Kb 0 w w'
theorem owg_app{base:Nat}{W:World}{v:Value}{g:Gv}{n:Nat}(hn:n=G.length+1)(h:W.ownsRow base 62 3 v n (G.flatMap gcl++[.bool g.1,.int .i64 g.2.1,.int .i64 g.2.2])):OwG base W v (G++[g]):=by
 unfold OwG;rw[List.flatMap_append,List.length_append,List.length_singleton,<-hn];exact(by simpa [gcl]using h)
theorem ch_31(a:Iv)(w:World)(h1:Rg av w vg G)(hn:G.length<=50)(hop:a.o=31)(hk:0<=a.b):
  Calls Tryz.prog 35 #[.agg #[.int .i64 a.o,.int .i64 a.a,.int .i64 a.b,.int .i64 a.c,.int .i64 a.d],vg] w (ChA a G w):=by
 obtain⟨o,oa,ob,oc,od⟩:=a;dsimp only at hop;subst hop;obtain⟨pg,cg,rfl,hcg,r1⟩:=h1;obtain⟨w2,hw2⟩:∃w2,w2=w.alloc (.cells #[.int .i64 31,.int .i64 oa,.int .i64 ob,.int .i64 oc,.int .i64 od] 79):=⟨_,rfl⟩
 have k2:Kb 0 w w2:=by rw[hw2];exact kb_alloc _ _ _
 have hs2:w2.heap.size=w.heap.size+1:=by rw[hw2];exact World.size_alloc _ _
 have hbk:w2.heap[w.heap.size]? =some (.cells #[.int .i64 31,.int .i64 oa,.int .i64 ob,.int .i64 oc,.int .i64 od] 79 (0,0)):=by rw[hw2];exact alloc_new _ _ _
 have hR:Rg av w (.slice pg G.length cg) G:=⟨pg,cg,rfl,hcg,r1⟩
 have HC:=sp_guards w2 (hR.kb k2) (by omega);have hnI:(G.length:Int)<=1000:=by omega
 have HN:Hid (G.length<=1000):=(by omega:G.length<=1000)
 have HW:Hid (w2=_):=hw2;have HG:Hid (Rg av w (.slice pg G.length cg) G/\Kb 0 w w2/\w2.heap.size=w.heap.size+1/\w2.heap[w.heap.size]? =some (.cells #[.int .i64 31,.int .i64 oa,.int .i64 ob,.int .i64 oc,.int .i64 od] 79 (0,0))):=(⟨hR,k2,hs2,hbk⟩:_/\_)
 clear hw2 r1 hcg hR k2 hs2 hbk hn;go_enter Tryz.func35,Tryz.ntmps35;go_wp2_with fail;rw[<-(uh HW)];clear HW;refine HC.mono ?_;rintro e w3 ⟨v,rfl,hO,k3⟩;obtain⟨ad,cap,rfl⟩:=own_shape hO;obtain⟨hR,k2,hs2,hbk⟩:=(uh HG)
 have hb3:=(k3.block w.heap.size zq (by omega)).trans hbk;have c0:w3.cell? ⟨w.heap.size,0,none⟩=some (.int .i64 31):=cell_of hb3 rfl;have c1:w3.cell? ⟨w.heap.size,1,none⟩=some (.int .i64 oa):=cell_of hb3 rfl;have c2:w3.cell? ⟨w.heap.size,2,none⟩=some (.int .i64 ob):=cell_of hb3 rfl;have k03:=k2.trans k3;have hs3:=k3.size;clear HG HC hbk;have hfit:gfit ⟨31,oa,ob,oc,od⟩ G↔(G.length<50/\kpt G<=ob):=by unfold gfit;simp
 have hbh:gbh ⟨31,oa,ob,oc,od⟩ G=G++[(true,ob,oa)]:=by unfold gbh;simp
 have howna:=λo=>World.ownsRow.alloc hO o;have hqc:=qr_cells w3 #[.bool true,.int .i64 ob,.int .i64 oa] 62 [.bool true,.int .i64 ob,.int .i64 oa] rfl;have h1c:∀u ∈ ([.bool true,.int .i64 ob,.int .i64 oa]:List Value),u.oneCell'=true:=by intro u hu;simp at hu;rcases hu with rfl|rfl|rfl<;>rfl
 have HSTP:Hid (∀(E:Obj) (g c':Nat) (w7:World),w7.ownsRow w2.heap.size 62 3 (.slice (some ⟨g,0,none⟩) (G.length+1) c') (G.length+1) (G.flatMap gcl++[.bool true,.int .i64 ob,.int .i64 oa])->(w3.alloc E).grownBy w7 (Value.slice ad G.length cap).ownBlock->Rg (λk=>w.heap.size<=k) w7 (.slice (some ⟨g,0,none⟩) (G.length+1) c') (gbh ⟨31,oa,ob,oc,od⟩ G)/\Kb 0 w w7/\w7.cell? ⟨w.heap.size,1,none⟩=some (.int .i64 oa)/\w7.cell? ⟨w.heap.size,2,none⟩=some (.int .i64 ob)/\Calls Tryz.prog 65 #[.slice pg G.length cg,.int .i64 ob] w7 λe w'=>e=.returned (.bool (dc (AbP G ob)))/\Kb 0 w7 w'):=(λE g c' w7 h1 h2=>by
  have hgg:∀g,(Value.slice ad G.length cap).ownBlock=some g->w2.heap.size<=g:=λg e=>(hO.lt g e).1;have kg:Kb 0 w2 w7:=(k3.alloc E).gr h2 hgg;have kz:Kb 0 w w7:=k2.trans kg;have hb7:=(kg.block w.heap.size zq (by omega)).trans ((k3.block w.heap.size zq (by omega)).symm.trans hb3);refine⟨?_,kz,cell_of hb7 rfl,cell_of hb7 rfl,sp_above _ w7 (hR.kb kz) (uh HN)⟩;rw[hbh];have:=(owg_app (g:=(true,ob,oa)) rfl h1).rg
  exact this.imp (λb _ hb=>by omega):∀(E:Obj),_)
 have HB:Hid ((gfit ⟨31,oa,ob,oc,od⟩ G↔(G.length<50/\kpt G<=ob))/\((AbP G ob)↔kpt G<=ob)):=(⟨hfit,above_iff hk⟩:_/\_)
 have hbz:w2.heap.size<=w3.heap.size:=hs3;obtain⟨i0,hi0,hz0,hzs,hzb⟩:=info_parts infoG;have HI0:Hid (Tryz.prog.info? 62=some i0):=hi0;clear hi0;clear hO hR k2 hb3 k03 hs2 k3 hfit hbh hs3 hk;by_cases h50:G.length<50
 ·have g50:(G.length:Int)<50:=by omega
  go_wp2_with (first|(at_builtin;refine wpList_append_lies _ rfl (.tmp 16) (.tmp 22) 56 rfl w2.heap.size 62 i0 (.agg #[.bool false,.int .i64 0,.int .i64 0]) 3 24 Tryz.underlying56 HI0 hz0 hzs hzb rfl (by decide) _ _ _ rfl (howna _) ⟨w3.heap.size,0,none⟩ 1 1 [.bool true,.int .i64 ob,.int .i64 oa] rfl rfl hqc h1c (by decide) (by unfold maxLen;omega) (by omega) (by rw[World.size_alloc];omega) (w3.heap.size+1) (by simp) ?_;intro g cap' w7 hown3 hgr3 hl3 _;obtain⟨s1,s2,s3,s4,s5⟩:=(uh HSTP) _ _ _ _ hown3 hgr3;have HZ:Hid (Rg (λk=>w.heap.size<=k) w7 (.slice (some ⟨g,0,none⟩) (G.length+1) cap') (gbh ⟨31,oa,ob,oc,od⟩ G)/\Kb 0 w w7):=(⟨s1,s2⟩:_/\_);clear s1 s2 hown3 hgr3 hl3 howna hqc h1c HSTP c0 c1 c2)|(go_at_call 65;refine s5.mono ?_;rintro e w8 ⟨rfl,k8⟩;have HZ8:Hid (Kb 0 w7 w8):=k8;clear k8 s5 s3 s4));refine bodyPost_ret (by simp[results,Tryz.results35,go_sem];rfl) rfl ?_;have hB:=(uh HB)
  refine⟨_,_,_,?_,λ_=>(uh HZ).1.kb HZ8,(uh HZ).2.trans HZ8⟩;rw[dc_iff (hB.1.trans ⟨λq=>hB.2.2 q.2,λq=>⟨h50,hB.2.1 q⟩⟩)]
 ·have g50:¬(G.length:Int)<50:=by omega
  go_wp2_with (at_builtin;refine wpList_append_lies _ rfl (.tmp 16) (.tmp 22) 56 rfl w2.heap.size 62 i0 (.agg #[.bool false,.int .i64 0,.int .i64 0]) 3 24 Tryz.underlying56 HI0 hz0 hzs hzb rfl (by decide) _ _ _ rfl (howna _) ⟨w3.heap.size,0,none⟩ 1 1 [.bool true,.int .i64 ob,.int .i64 oa] rfl rfl hqc h1c (by decide) (by unfold maxLen;omega) (by omega) (by rw[World.size_alloc];omega) (w3.heap.size+1) (by simp) ?_;intro g cap' w7 hown3 hgr3 hl3 _;obtain⟨s1,s2,s3,s4,s5⟩:=(uh HSTP) _ _ _ _ hown3 hgr3;have HZ:Hid (Rg (λk=>w.heap.size<=k) w7 (.slice (some ⟨g,0,none⟩) (G.length+1) cap') (gbh ⟨31,oa,ob,oc,od⟩ G)/\Kb 0 w w7):=(⟨s1,s2⟩:_/\_);clear s1 s2 hown3 hgr3 hl3 howna hqc h1c HSTP c0 c1 c2 s5);refine bodyPost_ret (by simp[results,Tryz.results35,go_sem];rfl) rfl ?_;have hB:=(uh HB)
  refine⟨_,_,_,?_,λ_=>(uh HZ).1,(uh HZ).2⟩;rw[dc_f (λq=>h50 (hB.1.1 q).1)]
theorem ch_33(a:Iv)(w:World)(h1:Rg av w vg G)(hn:G.length<=50)(hop:a.o=33)(hk:0<=a.a):
  Calls Tryz.prog 35 #[.agg #[.int .i64 a.o,.int .i64 a.a,.int .i64 a.b,.int .i64 a.c,.int .i64 a.d],vg] w (ChA a G w):=by
 obtain⟨o,oa,ob,oc,od⟩:=a;dsimp only at hop;subst hop;obtain⟨pg,cg,rfl,hcg,r1⟩:=h1;obtain⟨w2,hw2⟩:∃w2,w2=w.alloc (.cells #[.int .i64 33,.int .i64 oa,.int .i64 ob,.int .i64 oc,.int .i64 od] 79):=⟨_,rfl⟩
 have k2:Kb 0 w w2:=by rw[hw2];exact kb_alloc _ _ _
 have hs2:w2.heap.size=w.heap.size+1:=by rw[hw2];exact World.size_alloc _ _
 have hbk:w2.heap[w.heap.size]? =some (.cells #[.int .i64 33,.int .i64 oa,.int .i64 ob,.int .i64 oc,.int .i64 od] 79 (0,0)):=by rw[hw2];exact alloc_new _ _ _
 have hR:Rg av w (.slice pg G.length cg) G:=⟨pg,cg,rfl,hcg,r1⟩
 have HC:=sp_guards w2 (hR.kb k2) (by omega);have hnI:(G.length:Int)<=1000:=by omega
 have HN:Hid (G.length<=1000):=(by omega:G.length<=1000)
 have HW:Hid (w2=_):=hw2;have HG:Hid (Rg av w (.slice pg G.length cg) G/\Kb 0 w w2/\w2.heap.size=w.heap.size+1/\w2.heap[w.heap.size]? =some (.cells #[.int .i64 33,.int .i64 oa,.int .i64 ob,.int .i64 oc,.int .i64 od] 79 (0,0))):=(⟨hR,k2,hs2,hbk⟩:_/\_)
 clear hw2 r1 hcg hR k2 hs2 hbk hn;go_enter Tryz.func35,Tryz.ntmps35;go_wp2_with fail;rw[<-(uh HW)];clear HW;refine HC.mono ?_;rintro e w3 ⟨v,rfl,hO,k3⟩;obtain⟨ad,cap,rfl⟩:=own_shape hO;obtain⟨hR,k2,hs2,hbk⟩:=(uh HG)
 have hb3:=(k3.block w.heap.size zq (by omega)).trans hbk;have c0:w3.cell? ⟨w.heap.size,0,none⟩=some (.int .i64 33):=cell_of hb3 rfl;have c1:w3.cell? ⟨w.heap.size,1,none⟩=some (.int .i64 oa):=cell_of hb3 rfl;have c2:w3.cell? ⟨w.heap.size,2,none⟩=some (.int .i64 ob):=cell_of hb3 rfl;have k03:=k2.trans k3;have hs3:=k3.size;clear HG HC hbk;have hfit:gfit ⟨33,oa,ob,oc,od⟩ G↔(G.length<50/\kpt G<=oa):=by unfold gfit;simp
 have hbh:gbh ⟨33,oa,ob,oc,od⟩ G=G++[(false,oa,0)]:=by unfold gbh;simp
 have howna:=λo=>World.ownsRow.alloc hO o;have hqc:=qr_cells w3 #[.bool false,.int .i64 oa,.int .i64 0] 62 [.bool false,.int .i64 oa,.int .i64 0] rfl;have h1c:∀u ∈ ([.bool false,.int .i64 oa,.int .i64 0]:List Value),u.oneCell'=true:=by intro u hu;simp at hu;rcases hu with rfl|rfl|rfl<;>rfl
 have HSTP:Hid (∀(E:Obj) (g c':Nat) (w7:World),w7.ownsRow w2.heap.size 62 3 (.slice (some ⟨g,0,none⟩) (G.length+1) c') (G.length+1) (G.flatMap gcl++[.bool false,.int .i64 oa,.int .i64 0])->(w3.alloc E).grownBy w7 (Value.slice ad G.length cap).ownBlock->Rg (λk=>w.heap.size<=k) w7 (.slice (some ⟨g,0,none⟩) (G.length+1) c') (gbh ⟨33,oa,ob,oc,od⟩ G)/\Kb 0 w w7/\w7.cell? ⟨w.heap.size,1,none⟩=some (.int .i64 oa)/\w7.cell? ⟨w.heap.size,2,none⟩=some (.int .i64 ob)/\Calls Tryz.prog 65 #[.slice pg G.length cg,.int .i64 oa] w7 λe w'=>e=.returned (.bool (dc (AbP G oa)))/\Kb 0 w7 w'):=(λE g c' w7 h1 h2=>by
  have hgg:∀g,(Value.slice ad G.length cap).ownBlock=some g->w2.heap.size<=g:=λg e=>(hO.lt g e).1;have kg:Kb 0 w2 w7:=(k3.alloc E).gr h2 hgg;have kz:Kb 0 w w7:=k2.trans kg;have hb7:=(kg.block w.heap.size zq (by omega)).trans ((k3.block w.heap.size zq (by omega)).symm.trans hb3);refine⟨?_,kz,cell_of hb7 rfl,cell_of hb7 rfl,sp_above _ w7 (hR.kb kz) (uh HN)⟩;rw[hbh];have:=(owg_app (g:=(false,oa,0)) rfl h1).rg
  exact this.imp (λb _ hb=>by omega):∀(E:Obj),_)
 have HB:Hid ((gfit ⟨33,oa,ob,oc,od⟩ G↔(G.length<50/\kpt G<=oa))/\((AbP G oa)↔kpt G<=oa)):=(⟨hfit,above_iff hk⟩:_/\_)
 have hbz:w2.heap.size<=w3.heap.size:=hs3;obtain⟨i0,hi0,hz0,hzs,hzb⟩:=info_parts infoG;have HI0:Hid (Tryz.prog.info? 62=some i0):=hi0;clear hi0;clear hO hR k2 hb3 k03 hs2 k3 hfit hbh hs3 hk;by_cases h50:G.length<50
 ·have g50:(G.length:Int)<50:=by omega
  go_wp2_with (first|(at_builtin;refine wpList_append_lies _ rfl (.tmp 34) (.tmp 38) 56 rfl w2.heap.size 62 i0 (.agg #[.bool false,.int .i64 0,.int .i64 0]) 3 24 Tryz.underlying56 HI0 hz0 hzs hzb rfl (by decide) _ _ _ rfl (howna _) ⟨w3.heap.size,0,none⟩ 1 1 [.bool false,.int .i64 oa,.int .i64 0] rfl rfl hqc h1c (by decide) (by unfold maxLen;omega) (by omega) (by rw[World.size_alloc];omega) (w3.heap.size+1) (by simp) ?_;intro g cap' w7 hown3 hgr3 hl3 _;obtain⟨s1,s2,s3,s4,s5⟩:=(uh HSTP) _ _ _ _ hown3 hgr3;have HZ:Hid (Rg (λk=>w.heap.size<=k) w7 (.slice (some ⟨g,0,none⟩) (G.length+1) cap') (gbh ⟨33,oa,ob,oc,od⟩ G)/\Kb 0 w w7):=(⟨s1,s2⟩:_/\_);clear s1 s2 hown3 hgr3 hl3 howna hqc h1c HSTP c0 c1 c2)|(go_at_call 65;refine s5.mono ?_;rintro e w8 ⟨rfl,k8⟩;have HZ8:Hid (Kb 0 w7 w8):=k8;clear k8 s5 s3 s4));refine bodyPost_ret (by simp[results,Tryz.results35,go_sem];rfl) rfl ?_;have hB:=(uh HB)
  refine⟨_,_,_,?_,λ_=>(uh HZ).1.kb HZ8,(uh HZ).2.trans HZ8⟩;rw[dc_iff (hB.1.trans ⟨λq=>hB.2.2 q.2,λq=>⟨h50,hB.2.1 q⟩⟩)]
 ·have g50:¬(G.length:Int)<50:=by omega
  go_wp2_with (at_builtin;refine wpList_append_lies _ rfl (.tmp 34) (.tmp 38) 56 rfl w2.heap.size 62 i0 (.agg #[.bool false,.int .i64 0,.int .i64 0]) 3 24 Tryz.underlying56 HI0 hz0 hzs hzb rfl (by decide) _ _ _ rfl (howna _) ⟨w3.heap.size,0,none⟩ 1 1 [.bool false,.int .i64 oa,.int .i64 0] rfl rfl hqc h1c (by decide) (by unfold maxLen;omega) (by omega) (by rw[World.size_alloc];omega) (w3.heap.size+1) (by simp) ?_;intro g cap' w7 hown3 hgr3 hl3 _;obtain⟨s1,s2,s3,s4,s5⟩:=(uh HSTP) _ _ _ _ hown3 hgr3;have HZ:Hid (Rg (λk=>w.heap.size<=k) w7 (.slice (some ⟨g,0,none⟩) (G.length+1) cap') (gbh ⟨33,oa,ob,oc,od⟩ G)/\Kb 0 w w7):=(⟨s1,s2⟩:_/\_);clear s1 s2 hown3 hgr3 hl3 howna hqc h1c HSTP c0 c1 c2 s5);refine bodyPost_ret (by simp[results,Tryz.results35,go_sem];rfl) rfl ?_;have hB:=(uh HB)
  refine⟨_,_,_,?_,λ_=>(uh HZ).1,(uh HZ).2⟩;rw[dc_f (λq=>h50 (hB.1.1 q).1)]
theorem last_of(h:G≠ []):∃(m:Nat) (g:Gv),G.length=m+1/\G[m]? =some g/\ctc G=g.1/\dfr G=(!g.1)/\G=G.dropLast++[g]/\G.dropLast.length=m/\G.getLast?=some g:=by
 rcases List.eq_nil_or_concat G with rfl|⟨L,g,rfl⟩
 ·exact absurd rfl h
 ·refine⟨L.length,g,by simp,by simp,?_,?_,by simp,by simp,by simp⟩<;>simp[ctc,dfr]
def LastP(G:List Gv)(m:Nat)(g:Gv):Prop:=G.length=m+1/\G[m]? =some g/\ctc G=g.1/\dfr G=(!g.1)/\G=G.dropLast++[g]/\G.dropLast.length=m/\G.getLast?=some g
theorem ch_32(a:Iv)(w:World)(h1:Rg av w vg G)(hn:G.length<=50)(hop:a.o=32):
  Calls Tryz.prog 35 #[.agg #[.int .i64 a.o,.int .i64 a.a,.int .i64 a.b,.int .i64 a.c,.int .i64 a.d],vg] w (ChA a G w):=by
 obtain⟨o,oa,ob,oc,od⟩:=a;dsimp only at hop;subst hop;by_cases hnil:G=[]
 ·subst hnil;have hF:dc (gfit ⟨32,oa,ob,oc,od⟩ [])=false:=dc_f (by unfold gfit;simp[ctc]);have HNF:Hid (¬gfit ⟨32,oa,ob,oc,od⟩ []):=(by unfold gfit;simp[ctc]:¬gfit ⟨32,oa,ob,oc,od⟩ [])
  unfold ChA;rw[hF];clear hF;obtain⟨pg,cg,rfl,hcg,r1⟩:=h1;obtain⟨w2,hw2⟩:∃w2,w2=w.alloc (.cells #[.int .i64 32,.int .i64 oa,.int .i64 ob,.int .i64 oc,.int .i64 od] 79):=⟨_,rfl⟩
  have k2:Kb 0 w w2:=by rw[hw2];exact kb_alloc _ _ _
  have hs2:w2.heap.size=w.heap.size+1:=by rw[hw2];exact World.size_alloc _ _
  have hbk:w2.heap[w.heap.size]? =some (.cells #[.int .i64 32,.int .i64 oa,.int .i64 ob,.int .i64 oc,.int .i64 od] 79 (0,0)):=by rw[hw2];exact alloc_new _ _ _
  have hR:Rg av w (.slice pg ([]:List Gv).length cg) ([]:List Gv):=⟨pg,cg,rfl,hcg,r1⟩
  have HC:=sp_guards w2 (hR.kb k2) (by simp);have HN:Hid (([]:List Gv).length<=1000):=(by simp:([]:List Gv).length<=1000)
  have HW:Hid (w2=_):=hw2;have HG:Hid (Rg av w (.slice pg ([]:List Gv).length cg) ([]:List Gv)/\Kb 0 w w2/\w2.heap.size=w.heap.size+1/\w2.heap[w.heap.size]? =some (.cells #[.int .i64 32,.int .i64 oa,.int .i64 ob,.int .i64 oc,.int .i64 od] 79 (0,0))):=(⟨hR,k2,hs2,hbk⟩:_/\_)
  clear hw2 r1 hcg hR k2 hs2 hbk hn;go_enter Tryz.func35,Tryz.ntmps35;go_wp2_with fail;rw[<-(uh HW)];clear HW;refine HC.mono ?_;rintro e w3 ⟨v,rfl,hO,k3⟩;obtain⟨ad,cap,rfl⟩:=own_shape hO;obtain⟨hR,k2,hs2,hbk⟩:=(uh HG)
  have hb3:=(k3.block w.heap.size zq (by omega)).trans hbk;have c0:w3.cell? ⟨w.heap.size,0,none⟩=some (.int .i64 32):=cell_of hb3 rfl;have c1:w3.cell? ⟨w.heap.size,1,none⟩=some (.int .i64 oa):=cell_of hb3 rfl;have c2:w3.cell? ⟨w.heap.size,2,none⟩=some (.int .i64 ob):=cell_of hb3 rfl;have k03:=k2.trans k3;have hs3:=k3.size;clear HG HC hbk;have HKK:Hid (Kb 0 w w3):=k03;clear hO hR k2 hb3 k03 hs2 k3 hs3 HN;go_wp2_with fail;refine bodyPost_ret (by simp[results,Tryz.results35,go_sem];rfl) rfl ?_;exact⟨_,_,_,rfl,λq=>absurd q HNF,HKK⟩
 obtain⟨m,g,hL⟩:=last_of hnil;have HL:Hid (LastP G m g/\(gfit ⟨32,oa,ob,oc,od⟩ G↔g.1=true)):=(⟨hL,by unfold gfit;simp[hL.2.2.1]⟩:_/\_)
 clear hL hnil;obtain⟨pg,cg,rfl,hcg,r1⟩:=h1;obtain⟨w2,hw2⟩:∃w2,w2=w.alloc (.cells #[.int .i64 32,.int .i64 oa,.int .i64 ob,.int .i64 oc,.int .i64 od] 79):=⟨_,rfl⟩
 have k2:Kb 0 w w2:=by rw[hw2];exact kb_alloc _ _ _
 have hs2:w2.heap.size=w.heap.size+1:=by rw[hw2];exact World.size_alloc _ _
 have hbk:w2.heap[w.heap.size]? =some (.cells #[.int .i64 32,.int .i64 oa,.int .i64 ob,.int .i64 oc,.int .i64 od] 79 (0,0)):=by rw[hw2];exact alloc_new _ _ _
 have hR:Rg av w (.slice pg G.length cg) G:=⟨pg,cg,rfl,hcg,r1⟩
 have HC:=sp_guards w2 (hR.kb k2) (by omega);have hnI:(G.length:Int)<=1000:=by omega
 have HN:Hid (G.length<=1000):=(by omega:G.length<=1000)
 have HW:Hid (w2=_):=hw2;have HG:Hid (Rg av w (.slice pg G.length cg) G/\Kb 0 w w2/\w2.heap.size=w.heap.size+1/\w2.heap[w.heap.size]? =some (.cells #[.int .i64 32,.int .i64 oa,.int .i64 ob,.int .i64 oc,.int .i64 od] 79 (0,0))):=(⟨hR,k2,hs2,hbk⟩:_/\_)
 clear hw2 r1 hcg hR k2 hs2 hbk hn;go_enter Tryz.func35,Tryz.ntmps35;go_wp2_with fail;rw[<-(uh HW)];clear HW;refine HC.mono ?_;rintro e w3 ⟨v,rfl,hO,k3⟩;obtain⟨ad,cap,rfl⟩:=own_shape hO;have hl:=(uh HL).1.1;have hgm:=(uh HL).1.2.1
 obtain⟨q,rfl,hcap,hq2⟩:∃q,ad=some ⟨q,0,none⟩/\m+1<=cap/\w2.heap.size<=q:=by
  rcases hO.2 with⟨e,e'⟩|⟨q,c',cur,e,h1',h2',h3',_⟩
  ·rw[hl]at e';omega
  ·obtain⟨rfl,rfl⟩:ad=some ⟨q,0,none⟩/\cap=c':=by simpa using e
   exact⟨q,rfl,by rw[hl]at h3';exact h3',h1'⟩
 have hcs:∀t,t<3->w3.cell? ⟨q,m*3+t,none⟩=(gcl g)[t]?:=λt ht=>by
  have e:=gcl_at G m g hgm t ht;have:=World.ownsRow.cellAt hO (m*3+t) (by rw[hl];omega);rw[this,e]
 obtain⟨b,hbq⟩:∃b:Addr,b=⟨q,0,none⟩:=⟨_,rfl⟩
 have d0:w3.cell? (b.add (m*3))=some (.bool g.1):=by rw[hbq,addr0];exact hcs 0 (by omega)
 have HBQ:Hid (b=⟨q,0,none⟩/\w2.heap.size<=q):=(⟨hbq,hq2⟩:_/\_)
 rw[<-hbq]at hO;rw[<-hbq];have hcI:(m:Int)+1<=(cap:Int):=by omega
 have hmI:(m:Int)+1<=1000:=by omega
 obtain⟨hR,k2,hs2,hbk⟩:=(uh HG)
 have hb3:=(k3.block w.heap.size zq (by omega)).trans hbk;have c0:w3.cell? ⟨w.heap.size,0,none⟩=some (.int .i64 32):=cell_of hb3 rfl;have c1:w3.cell? ⟨w.heap.size,1,none⟩=some (.int .i64 oa):=cell_of hb3 rfl;have c2:w3.cell? ⟨w.heap.size,2,none⟩=some (.int .i64 ob):=cell_of hb3 rfl;have k03:=k2.trans k3;have hs3:=k3.size;clear HG HC hbk;have HFI:=(uh HL).2;rcases hg:g.1 with _|_
 ·rw[hg]at d0;have hNF:¬gfit ⟨32,oa,ob,oc,od⟩ G:=λq=>by have:=HFI.1 q;rw[hg]at this;cases this
  rw[hl];have HNF:Hid (¬gfit ⟨32,oa,ob,oc,od⟩ G):=hNF;have HKK:Hid (Kb 0 w w3):=k03;clear hO hR k2 hb3 k03 hs2 k3 hs3 HN hnI hcs hbq hq2 hcap hl hgm hNF HFI hg;go_wp2_with fail;refine bodyPost_ret (by simp[results,Tryz.results35,go_sem];rfl) rfl ?_;exact⟨_,_,_,by rw[dc_f HNF],λq=>absurd q HNF,HKK⟩
 ·rw[hg]at d0;have HGT:=HFI.2 hg
  have HZ:Hid (Rg (λk=>w.heap.size<=k) w3 (.slice (some b) m cap) (gbh ⟨32,oa,ob,oc,od⟩ G)/\Kb 0 w w3):=by
   refine And.intro ?_ k03;have hLL:=(uh HL).1;rw[show gbh ⟨32,oa,ob,oc,od⟩ G=G.dropLast from by unfold gbh;simp];obtain⟨p',c',e,h5,h6⟩:=hO.rg;obtain⟨rfl,rfl⟩:some b=p'/\cap=c':=by simpa using e
   refine⟨some b,cap,by rw[hLL.2.2.2.2.2.1],by rw[hLL.2.2.2.2.2.1];omega,λh=>⟨b,rfl,by rw[hbq];show w.heap.size<=q;omega,λj x hx=>?_⟩⟩;obtain⟨b',e2,-,h7⟩:=h6 (by rw[hl];omega);have e2:b=b':=by simpa using e2
   rw[e2];refine h7 j x ?_;have hj:=(List.getElem?_eq_some_iff.1 hx).1;rw[hLL.2.2.2.2.1,List.getElem?_append_left hj];exact hx
  rw[hl];have HGH:Hid (gfit ⟨32,oa,ob,oc,od⟩ G):=HGT;clear hO hR k2 hb3 k03 hs2 k3 hs3 HN hnI hcs hbq hq2 hcap hl hgm HGT HFI hg;go_wp2_with fail;refine bodyPost_ret (by simp[results,Tryz.results35,go_sem];rfl) rfl ?_;exact⟨_,_,_,by rw[dc_t (uh HGH)],λ_=>(uh HZ).1,(uh HZ).2⟩
theorem ch_34(a:Iv)(w:World)(h1:Rg av w vg G)(hn:G.length<=50)(hop:a.o=34)(hk:0<=a.a):
  Calls Tryz.prog 35 #[.agg #[.int .i64 a.o,.int .i64 a.a,.int .i64 a.b,.int .i64 a.c,.int .i64 a.d],vg] w (ChA a G w):=by
 obtain⟨o,oa,ob,oc,od⟩:=a;dsimp only at hop;subst hop;by_cases hnil:G=[]
 ·subst hnil;have hF:dc (gfit ⟨34,oa,ob,oc,od⟩ [])=false:=dc_f (by unfold gfit;simp[dfr]);have HNF:Hid (¬gfit ⟨34,oa,ob,oc,od⟩ []):=(by unfold gfit;simp[dfr]:¬gfit ⟨34,oa,ob,oc,od⟩ [])
  unfold ChA;rw[hF];clear hF;obtain⟨pg,cg,rfl,hcg,r1⟩:=h1;obtain⟨w2,hw2⟩:∃w2,w2=w.alloc (.cells #[.int .i64 34,.int .i64 oa,.int .i64 ob,.int .i64 oc,.int .i64 od] 79):=⟨_,rfl⟩
  have k2:Kb 0 w w2:=by rw[hw2];exact kb_alloc _ _ _
  have hs2:w2.heap.size=w.heap.size+1:=by rw[hw2];exact World.size_alloc _ _
  have hbk:w2.heap[w.heap.size]? =some (.cells #[.int .i64 34,.int .i64 oa,.int .i64 ob,.int .i64 oc,.int .i64 od] 79 (0,0)):=by rw[hw2];exact alloc_new _ _ _
  have hR:Rg av w (.slice pg ([]:List Gv).length cg) ([]:List Gv):=⟨pg,cg,rfl,hcg,r1⟩
  have HC:=sp_guards w2 (hR.kb k2) (by simp);have HN:Hid (([]:List Gv).length<=1000):=(by simp:([]:List Gv).length<=1000)
  have HW:Hid (w2=_):=hw2;have HG:Hid (Rg av w (.slice pg ([]:List Gv).length cg) ([]:List Gv)/\Kb 0 w w2/\w2.heap.size=w.heap.size+1/\w2.heap[w.heap.size]? =some (.cells #[.int .i64 34,.int .i64 oa,.int .i64 ob,.int .i64 oc,.int .i64 od] 79 (0,0))):=(⟨hR,k2,hs2,hbk⟩:_/\_)
  clear hw2 r1 hcg hR k2 hs2 hbk hn;go_enter Tryz.func35,Tryz.ntmps35;go_wp2_with fail;rw[<-(uh HW)];clear HW;refine HC.mono ?_;rintro e w3 ⟨v,rfl,hO,k3⟩;obtain⟨ad,cap,rfl⟩:=own_shape hO;obtain⟨hR,k2,hs2,hbk⟩:=(uh HG)
  have hb3:=(k3.block w.heap.size zq (by omega)).trans hbk;have c0:w3.cell? ⟨w.heap.size,0,none⟩=some (.int .i64 34):=cell_of hb3 rfl;have c1:w3.cell? ⟨w.heap.size,1,none⟩=some (.int .i64 oa):=cell_of hb3 rfl;have c2:w3.cell? ⟨w.heap.size,2,none⟩=some (.int .i64 ob):=cell_of hb3 rfl;have k03:=k2.trans k3;have hs3:=k3.size;clear HG HC hbk;have HKK:Hid (Kb 0 w w3):=k03;clear hO hR k2 hb3 k03 hs2 k3 hs3 HN;go_wp2_with fail;refine bodyPost_ret (by simp[results,Tryz.results35,go_sem];rfl) rfl ?_;exact⟨_,_,_,rfl,λq=>absurd q HNF,HKK⟩
 obtain⟨m,g,hL⟩:=last_of hnil;have HL:Hid (LastP G m g/\(gfit ⟨34,oa,ob,oc,od⟩ G↔(g.1=false/\kpt G<=oa))):=(⟨hL,by unfold gfit;simp[hL.2.2.2.1]⟩:_/\_)
 clear hL hnil;obtain⟨pg,cg,rfl,hcg,r1⟩:=h1;obtain⟨w2,hw2⟩:∃w2,w2=w.alloc (.cells #[.int .i64 34,.int .i64 oa,.int .i64 ob,.int .i64 oc,.int .i64 od] 79):=⟨_,rfl⟩
 have k2:Kb 0 w w2:=by rw[hw2];exact kb_alloc _ _ _
 have hs2:w2.heap.size=w.heap.size+1:=by rw[hw2];exact World.size_alloc _ _
 have hbk:w2.heap[w.heap.size]? =some (.cells #[.int .i64 34,.int .i64 oa,.int .i64 ob,.int .i64 oc,.int .i64 od] 79 (0,0)):=by rw[hw2];exact alloc_new _ _ _
 have hR:Rg av w (.slice pg G.length cg) G:=⟨pg,cg,rfl,hcg,r1⟩
 have HC:=sp_guards w2 (hR.kb k2) (by omega);have hnI:(G.length:Int)<=1000:=by omega
 have HN:Hid (G.length<=1000):=(by omega:G.length<=1000)
 have HW:Hid (w2=_):=hw2;have HG:Hid (Rg av w (.slice pg G.length cg) G/\Kb 0 w w2/\w2.heap.size=w.heap.size+1/\w2.heap[w.heap.size]? =some (.cells #[.int .i64 34,.int .i64 oa,.int .i64 ob,.int .i64 oc,.int .i64 od] 79 (0,0))):=(⟨hR,k2,hs2,hbk⟩:_/\_)
 clear hw2 r1 hcg hR k2 hs2 hbk hn;go_enter Tryz.func35,Tryz.ntmps35;go_wp2_with fail;rw[<-(uh HW)];clear HW;refine HC.mono ?_;rintro e w3 ⟨v,rfl,hO,k3⟩;obtain⟨ad,cap,rfl⟩:=own_shape hO;have hl:=(uh HL).1.1;have hgm:=(uh HL).1.2.1
 obtain⟨q,rfl,hcap,hq2⟩:∃q,ad=some ⟨q,0,none⟩/\m+1<=cap/\w2.heap.size<=q:=by
  rcases hO.2 with⟨e,e'⟩|⟨q,c',cur,e,h1',h2',h3',_⟩
  ·rw[hl]at e';omega
  ·obtain⟨rfl,rfl⟩:ad=some ⟨q,0,none⟩/\cap=c':=by simpa using e
   exact⟨q,rfl,by rw[hl]at h3';exact h3',h1'⟩
 have hcs:∀t,t<3->w3.cell? ⟨q,m*3+t,none⟩=(gcl g)[t]?:=λt ht=>by
  have e:=gcl_at G m g hgm t ht;have:=World.ownsRow.cellAt hO (m*3+t) (by rw[hl];omega);rw[this,e]
 obtain⟨b,hbq⟩:∃b:Addr,b=⟨q,0,none⟩:=⟨_,rfl⟩
 have d0:w3.cell? (b.add (m*3))=some (.bool g.1):=by rw[hbq,addr0];exact hcs 0 (by omega)
 have HBQ:Hid (b=⟨q,0,none⟩/\w2.heap.size<=q):=(⟨hbq,hq2⟩:_/\_)
 rw[<-hbq]at hO;rw[<-hbq];have hcI:(m:Int)+1<=(cap:Int):=by omega
 have hmI:(m:Int)+1<=1000:=by omega
 obtain⟨hR,k2,hs2,hbk⟩:=(uh HG)
 have hb3:=(k3.block w.heap.size zq (by omega)).trans hbk;have c0:w3.cell? ⟨w.heap.size,0,none⟩=some (.int .i64 34):=cell_of hb3 rfl;have c1:w3.cell? ⟨w.heap.size,1,none⟩=some (.int .i64 oa):=cell_of hb3 rfl;have c2:w3.cell? ⟨w.heap.size,2,none⟩=some (.int .i64 ob):=cell_of hb3 rfl;have k03:=k2.trans k3;have hs3:=k3.size;clear HG HC hbk;have HFI:=(uh HL).2;rcases hg:g.1 with _|_
 ·rw[hg]at d0;have HAB:=sp_above oa w3 (hR.kb k03) (uh HN);rw[dc_iff (above_iff hk)]at HAB;by_cases hkp:kpt G<=oa
  ·have HGT:=HFI.2 ⟨hg,hkp⟩;rw[dc_t hkp]at HAB;have d1:w3.cell? ⟨(b.add (m*3)).block,(b.add (m*3)).off+1,none⟩=some (.int .i64 g.2.1):=by rw[hbq,addr0];exact hcs 1 (by omega)
   have hfz:∀j,w3.frozen? ⟨q,j,none⟩=false:=λj=>by
    have:=hO;rw[hbq]at this;exact World.ownsRow.frozenAt this j
   have HST:Hid (∀w4,Kb 0 w3 w4->w4.cell? ⟨w.heap.size,0,none⟩=some (.int .i64 34)/\w4.cell? ⟨w.heap.size,1,none⟩=some (.int .i64 oa)/\w4.cell? ⟨(b.add (m*3)).block,(b.add (m*3)).off+1,none⟩=some (.int .i64 g.2.1)/\w4.frozen? ⟨(b.add (m*3)).block,(b.add (m*3)).off+1,none⟩=false/\(w4.setCell ⟨(b.add (m*3)).block,(b.add (m*3)).off+1,none⟩ (.int .i64 oa)).cell? ⟨w.heap.size,0,none⟩=some (.int .i64 34)/\Rg (λk=>w.heap.size<=k) (w4.setCell ⟨(b.add (m*3)).block,(b.add (m*3)).off+1,none⟩ (.int .i64 oa)) (.slice (some b) (m+1) cap) (gbh ⟨34,oa,ob,oc,od⟩ G)/\Kb 0 w (w4.setCell ⟨(b.add (m*3)).block,(b.add (m*3)).off+1,none⟩ (.int .i64 oa))):=(λw4 k4=>by
    have hq3:q<w3.heap.size:=lt_of_cell' (hcs 0 (by omega));have e0:b.add (m*3)=⟨q,m*3,none⟩:=by rw[hbq,addr0]
    have hc4:∀j,w4.cell? ⟨q,j,none⟩=w3.cell? ⟨q,j,none⟩:=λj=>World.cell?_of_block (k4.block q zq hq3);have hw0:(w4.setCell ⟨q,m*3+1,none⟩ (.int .i64 oa)).heap[w.heap.size]? =w4.heap[w.heap.size]?:=Below.heap_setCell _ _ _ _ (by show w.heap.size≠q;omega);have hb4:w4.heap[w.heap.size]? =w3.heap[w.heap.size]?:=k4.block _ zq (by omega);have kz:Kb 0 w (w4.setCell ⟨q,m*3+1,none⟩ (.int .i64 oa)):=(k03.trans k4).setCell _ (Or.inr (by show w.heap.size<=q;omega)) _;refine⟨k4.cell c0,k4.cell c1,k4.cell d1,?_,?_,?_,?_⟩
    ·rw[e0];exact(k4.frozen zq hq3).trans (hfz _)
    ·rw[e0];exact(World.cell?_of_block hw0).trans (k4.cell c0)
    ·rw[e0];have hLL:=(uh HL).1;have eG:gbh ⟨34,oa,ob,oc,od⟩ G=G.dropLast++[(g.1,oa,g.2.2)]:=by unfold gbh;simp[hLL.2.2.2.2.2.2]
     have eL:(gbh ⟨34,oa,ob,oc,od⟩ G).length=m+1:=by rw[eG,List.length_append,hLL.2.2.2.2.2.1];rfl
     refine⟨some b,cap,by rw[eL],by rw[eL];exact hcap,λ_=>⟨b,rfl,by rw[hbq];show w.heap.size<=q;omega,λj x hx=>?_⟩⟩;have hj:j<m+1:=by have:=(List.getElem?_eq_some_iff.1 hx).1;omega
     have eb:b.add (j*3)=⟨q,j*3,none⟩:=by rw[hbq,addr0]
     rw[eb];by_cases ej:j=m
     ·subst ej;rw[eG,List.getElem?_append_right (by rw[hLL.2.2.2.2.2.1];exact Nat.le_refl _),hLL.2.2.2.2.2.1,Nat.sub_self]at hx;have ex:(g.1,oa,g.2.2)=x:=by simpa using hx
      subst ex;exact⟨(set_ne _ q (j*3+1) (j*3) _ (by omega)).trans ((hc4 _).trans (hcs 0 (by omega))),set_eq _ _ _ _ _ ((hc4 _).trans (hcs 1 (by omega))),(set_ne _ q (j*3+1) (j*3+2) _ (by omega)).trans ((hc4 _).trans (hcs 2 (by omega)))⟩
     ·rw[eG,List.getElem?_append_left (by rw[hLL.2.2.2.2.2.1];omega)]at hx;have hx2:G[j]? =some x:=by rw[hLL.2.2.2.2.1,List.getElem?_append_left (by rw[hLL.2.2.2.2.2.1];omega)];exact hx
      have hcj:∀t,t<3->w3.cell? ⟨q,j*3+t,none⟩=(gcl x)[t]?:=λt ht=>by
       have e:=gcl_at G j x hx2 t ht;have hO2:=hO;rw[hbq]at hO2;have:=World.ownsRow.cellAt hO2 (j*3+t) (by rw[hl];omega);rw[this,e]
      exact⟨(set_ne _ q (m*3+1) (j*3) _ (by omega)).trans ((hc4 _).trans (hcj 0 (by omega))),(set_ne _ q (m*3+1) (j*3+1) _ (by omega)).trans ((hc4 _).trans (hcj 1 (by omega))),(set_ne _ q (m*3+1) (j*3+2) _ (by omega)).trans ((hc4 _).trans (hcj 2 (by omega)))⟩
    ·rw[e0];exact kz:∀w4,_)
   rw[hl]at HAB⊢;have HGH:Hid (gfit ⟨34,oa,ob,oc,od⟩ G):=HGT;clear hO hR k2 hb3 k03 hs2 k3 hs3 HN hnI hcs hbq hq2 hcap hl hgm HGT HFI hg hk hkp hfz d1;go_upto_region 17 with(go_at_call 65;refine HAB.mono ?_;rintro e w4 ⟨rfl,k4⟩;obtain⟨z0,z1,z2,z3,z4,z5,z6⟩:=(uh HST) _ k4;have HZ:Hid (Rg (λk=>w.heap.size<=k) (w4.setCell ⟨(b.add (m*3)).block,(b.add (m*3)).off+1,none⟩ (.int .i64 oa)) (.slice (some b) (m+1) cap) (gbh ⟨34,oa,ob,oc,od⟩ G)/\Kb 0 w (w4.setCell ⟨(b.add (m*3)).block,(b.add (m*3)).off+1,none⟩ (.int .i64 oa))):=(⟨z5,z6⟩:_/\_);clear HAB HST z5 z6 k4 c0 c1 d0);go_wp2_with fail;refine bodyPost_ret (by simp[results,Tryz.results35,go_sem];rfl) rfl ?_;exact⟨_,_,_,by rw[dc_t (uh HGH)],λ_=>(uh HZ).1,(uh HZ).2⟩
  ·have HNF:Hid (¬gfit ⟨34,oa,ob,oc,od⟩ G):=(λq=>hkp (HFI.1 q).2:¬gfit ⟨34,oa,ob,oc,od⟩ G)
   rw[dc_f hkp]at HAB;have HKK:Hid (Kb 0 w w3):=k03;rw[hl]at HAB⊢;clear hO hR k2 hb3 k03 hs2 k3 hs3 HN hnI hcs hbq hq2 hcap hl hgm HFI hg hk hkp;go_wp2_with (go_at_call 65;refine HAB.mono ?_;rintro e w4 ⟨rfl,k4⟩;have HK4:Hid (Kb 0 w w4):=(uh HKK).trans k4;clear HAB k4 HKK);refine bodyPost_ret (by simp[results,Tryz.results35,go_sem];rfl) rfl ?_;exact⟨_,_,_,by rw[dc_f HNF],λq=>absurd q HNF,HK4⟩
 ·rw[hg]at d0;have hNF:¬gfit ⟨34,oa,ob,oc,od⟩ G:=λq=>by have:=(HFI.1 q).1;rw[hg]at this;cases this
  rw[hl];have HNF:Hid (¬gfit ⟨34,oa,ob,oc,od⟩ G):=hNF;have HKK:Hid (Kb 0 w w3):=k03;clear hO hR k2 hb3 k03 hs2 k3 hs3 HN hnI hcs hbq hq2 hcap hl hgm hNF HFI hg hk;go_wp2_with fail;refine bodyPost_ret (by simp[results,Tryz.results35,go_sem];rfl) rfl ?_;exact⟨_,_,_,by rw[dc_f HNF],λq=>absurd q HNF,HKK⟩
