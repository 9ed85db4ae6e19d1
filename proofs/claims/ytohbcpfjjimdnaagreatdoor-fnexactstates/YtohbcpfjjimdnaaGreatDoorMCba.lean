import Derived.Test.YtohbcpfjjimdnaaGreatDoorMZaa
import Derived.Test.YtohbcpfjjimdnaaGreatDoorMVah
set_option maxRecDepth 100000
set_option maxHeartbeats 8000000
namespace Go.Proofs.YtohbcpfjjimdnaaGreatDoor.Fo
open Go.ChangeShapes Go.WideShapes Go.ChangeAt Go.RowKit
set_option linter.unusedVariables false
set_option maxRecDepth 100000
variable {a:Bool × Int}{W W':World}{c b g o n:Nat}{p:Addr}{v vu vc vn vd:Value}{C:Nat->Vv}{k m r:Int}{x:ByteArray}
structure Iv where
 o:Int
 a:Int
 b:Int
 c:Int
 d:Int
structure Mv where
 x:ByteArray
 g:Int
 f:Int
 t:Int
structure Pd where
 x:ByteArray
 l:Int
 m:Int
 r:Bool
 g:Int
 u:Nat
 U:Nat->Bool×Int
 c:Nat
 C:Nat->Vv
 n:Nat
 N:Nat->Iv
 d:Nat
 D:Nat->Mv
instance:Inhabited Iv:=⟨⟨0,0,0,0,0⟩⟩
instance:Inhabited Mv:=⟨⟨⟨#[]⟩,0,0,0⟩⟩
instance:Inhabited Vv:=⟨⟨0,0,0,⟨#[]⟩,0⟩⟩
instance:Inhabited Pd:=⟨⟨⟨#[]⟩,0,0,false,0,0,λ_=>(false,0),0,λ_=>default,0,λ_=>default,0,λ_=>default⟩⟩
def upv(a:Bool×Int):Value:=.agg #[.bool a.1,.int .i64 a.2]
def insv(a:Iv):Value:=.agg #[.int .i64 a.o,.int .i64 a.a,.int .i64 a.b,.int .i64 a.c,.int .i64 a.d]
def namv(a:Mv):Value:=.agg #[.string a.x,.int .i64 a.g,.int .i64 a.f,.int .i64 a.t]
def valv(a:Vv):Value:=.agg #[.int .i64 a.k,.int .i64 a.m,.float .f64 a.g,.string a.x,.int .i64 a.r]
def prov(f:Pd)(vu vc vn vd:Value):Value:=.agg #[.string f.x,.int .i64 f.l,.int .i64 f.m,.bool f.r,.int .i64 f.g,vu,vc,vn,vd]
theorem Kb.of_grown{a w:World}(h:Grown a w)(hs:a.heap.size<=w.heap.size)(b:Nat):Kb b a w:=⟨h.1.1,h.1.2.1,hs,λk _ hk=>grown_block h hk⟩
structure CelU (W:World) (b:Addr) (a:Bool×Int):Prop where
 c0:W.cell? b=some (.bool a.1)
 c1:W.cell? ⟨b.block,b.off+1,none⟩=some (.int .i64 a.2)
theorem CelU.keep{b:Addr}(h:CelU W b a)(hb:c<=b.block)(k:Kb c W W'):CelU W' b a:=
 ⟨k.cellA hb h.c0,k.cellA hb h.c1⟩
theorem CelU.of(h:∀t,t<2->W.cell? ⟨g,o+t,none⟩=([.bool a.1,.int .i64 a.2]:List Value)[t]?):CelU W ⟨g,o,none⟩ a:=
 ⟨h 0 (by omega),h 1 (by omega)⟩
def UpC(b:Nat)(W:World)(p:Addr)(a:Bool×Int):Prop:=CelU W p a
theorem UpC.keep(h:UpC b W p a)(hb:b<=p.block)(k:Kb b W W'):UpC b W' p a:=CelU.keep h hb k
theorem UpC.mono(h:UpC b W p a)(hc:c<=b):UpC c W p a:=h
def RowU(b:Nat)(W:World)(v:Value)(n:Nat)(U:Nat->Bool×Int):Prop:=
 ∃pa cap,v=.slice pa n cap/\(0<n->∃a:Addr,pa=some a/\n<=cap/\b<=a.block/\∀i,i<n->UpC b W (a.add (i*2)) (U i))
theorem RowU.keep{U:Nat->Bool×Int}(h:RowU b W v n U)(k:Kb b W W'):RowU b W' v n U:=by
 obtain⟨pa,cap,h1,h2⟩:=h;refine⟨pa,cap,h1,λhn=>?_⟩;obtain⟨a,e1,e2,e0,e3⟩:=h2 hn;exact⟨a,e1,e2,e0,λi hi=>(e3 i hi).keep (by rw[add_block];exact e0) k⟩
theorem RowU.mono{U:Nat->Bool×Int}(h:RowU b W v n U)(hc:c<=b):RowU c W v n U:=by
 obtain⟨pa,cap,h1,h2⟩:=h;refine⟨pa,cap,h1,λhn=>?_⟩;obtain⟨a,e1,e2,e0,e3⟩:=h2 hn;exact⟨a,e1,e2,Nat.le_trans hc e0,λi hi=>(e3 i hi).mono hc⟩
structure CelI (W:World) (b:Addr) (a:Iv):Prop where
 c0:W.cell? b=some (.int .i64 a.o)
 c1:W.cell? ⟨b.block,b.off+1,none⟩=some (.int .i64 a.a)
 c2:W.cell? ⟨b.block,b.off+2,none⟩=some (.int .i64 a.b)
 c3:W.cell? ⟨b.block,b.off+3,none⟩=some (.int .i64 a.c)
 c4:W.cell? ⟨b.block,b.off+4,none⟩=some (.int .i64 a.d)
theorem CelI.keep{b:Addr}{a:Iv}(h:CelI W b a)(hb:c<=b.block)(k:Kb c W W'):CelI W' b a:=
 ⟨k.cellA hb h.c0,k.cellA hb h.c1,k.cellA hb h.c2,k.cellA hb h.c3,k.cellA hb h.c4⟩
theorem CelI.of{a:Iv}(h:∀t,t<5->W.cell? ⟨g,o+t,none⟩=([.int .i64 a.o,.int .i64 a.a,.int .i64 a.b,.int .i64 a.c,.int .i64 a.d]:List Value)[t]?):CelI W ⟨g,o,none⟩ a:=
 ⟨h 0 (by omega),h 1 (by omega),h 2 (by omega),h 3 (by omega),h 4 (by omega)⟩
def InsC(b:Nat)(W:World)(p:Addr)(a:Iv):Prop:=CelI W p a
theorem InsC.keep{a:Iv}(h:InsC b W p a)(hb:b<=p.block)(k:Kb b W W'):InsC b W' p a:=CelI.keep h hb k
theorem InsC.mono{a:Iv}(h:InsC b W p a)(hc:c<=b):InsC c W p a:=h
def RowI(b:Nat)(W:World)(v:Value)(n:Nat)(N:Nat->Iv):Prop:=
 ∃pa cap,v=.slice pa n cap/\(0<n->∃a:Addr,pa=some a/\n<=cap/\b<=a.block/\∀i,i<n->InsC b W (a.add (i*5)) (N i))
theorem RowI.keep{N:Nat->Iv}(h:RowI b W v n N)(k:Kb b W W'):RowI b W' v n N:=by
 obtain⟨pa,cap,h1,h2⟩:=h;refine⟨pa,cap,h1,λhn=>?_⟩;obtain⟨a,e1,e2,e0,e3⟩:=h2 hn;exact⟨a,e1,e2,e0,λi hi=>(e3 i hi).keep (by rw[add_block];exact e0) k⟩
theorem RowI.mono{N:Nat->Iv}(h:RowI b W v n N)(hc:c<=b):RowI c W v n N:=by
 obtain⟨pa,cap,h1,h2⟩:=h;refine⟨pa,cap,h1,λhn=>?_⟩;obtain⟨a,e1,e2,e0,e3⟩:=h2 hn;exact⟨a,e1,e2,Nat.le_trans hc e0,λi hi=>(e3 i hi).mono hc⟩
structure CelM (W:World) (b:Addr) (a:Mv):Prop where
 c0:W.cell? b=some (.string a.x)
 c1:W.cell? ⟨b.block,b.off+1,none⟩=some (.int .i64 a.g)
 c2:W.cell? ⟨b.block,b.off+2,none⟩=some (.int .i64 a.f)
 c3:W.cell? ⟨b.block,b.off+3,none⟩=some (.int .i64 a.t)
theorem CelM.keep{b:Addr}{a:Mv}(h:CelM W b a)(hb:c<=b.block)(k:Kb c W W'):CelM W' b a:=
 ⟨k.cellA hb h.c0,k.cellA hb h.c1,k.cellA hb h.c2,k.cellA hb h.c3⟩
theorem CelM.of{a:Mv}(h:∀t,t<4->W.cell? ⟨g,o+t,none⟩=([.string a.x,.int .i64 a.g,.int .i64 a.f,.int .i64 a.t]:List Value)[t]?):CelM W ⟨g,o,none⟩ a:=
 ⟨h 0 (by omega),h 1 (by omega),h 2 (by omega),h 3 (by omega)⟩
def NamC(b:Nat)(W:World)(p:Addr)(a:Mv):Prop:=CelM W p a
theorem NamC.keep{a:Mv}(h:NamC b W p a)(hb:b<=p.block)(k:Kb b W W'):NamC b W' p a:=CelM.keep h hb k
theorem NamC.mono{a:Mv}(h:NamC b W p a)(hc:c<=b):NamC c W p a:=h
def RowM(b:Nat)(W:World)(v:Value)(n:Nat)(D:Nat->Mv):Prop:=
 ∃pa cap,v=.slice pa n cap/\(0<n->∃a:Addr,pa=some a/\n<=cap/\b<=a.block/\∀i,i<n->NamC b W (a.add (i*4)) (D i))
theorem RowM.keep{D:Nat->Mv}(h:RowM b W v n D)(k:Kb b W W'):RowM b W' v n D:=by
 obtain⟨pa,cap,h1,h2⟩:=h;refine⟨pa,cap,h1,λhn=>?_⟩;obtain⟨a,e1,e2,e0,e3⟩:=h2 hn;exact⟨a,e1,e2,e0,λi hi=>(e3 i hi).keep (by rw[add_block];exact e0) k⟩
theorem RowM.mono{D:Nat->Mv}(h:RowM b W v n D)(hc:c<=b):RowM c W v n D:=by
 obtain⟨pa,cap,h1,h2⟩:=h;refine⟨pa,cap,h1,λhn=>?_⟩;obtain⟨a,e1,e2,e0,e3⟩:=h2 hn;exact⟨a,e1,e2,Nat.le_trans hc e0,λi hi=>(e3 i hi).mono hc⟩
structure CelV (W:World) (b:Addr) (a:Vv):Prop where
 c0:W.cell? b=some (.int .i64 a.k)
 c1:W.cell? ⟨b.block,b.off+1,none⟩=some (.int .i64 a.m)
 c2:W.cell? ⟨b.block,b.off+2,none⟩=some (.float .f64 a.g)
 c3:W.cell? ⟨b.block,b.off+3,none⟩=some (.string a.x)
 c4:W.cell? ⟨b.block,b.off+4,none⟩=some (.int .i64 a.r)
theorem CelV.keep{b:Addr}{a:Vv}(h:CelV W b a)(hb:c<=b.block)(k:Kb c W W'):CelV W' b a:=
 ⟨k.cellA hb h.c0,k.cellA hb h.c1,k.cellA hb h.c2,k.cellA hb h.c3,k.cellA hb h.c4⟩
theorem CelV.of{a:Vv}(h:∀t,t<5->W.cell? ⟨g,o+t,none⟩=([.int .i64 a.k,.int .i64 a.m,.float .f64 a.g,.string a.x,.int .i64 a.r]:List Value)[t]?):CelV W ⟨g,o,none⟩ a:=
 ⟨h 0 (by omega),h 1 (by omega),h 2 (by omega),h 3 (by omega),h 4 (by omega)⟩
def ValC(b:Nat)(W:World)(p:Addr)(a:Vv):Prop:=CelV W p a
theorem ValC.keep{a:Vv}(h:ValC b W p a)(hb:b<=p.block)(k:Kb b W W'):ValC b W' p a:=CelV.keep h hb k
theorem ValC.mono{a:Vv}(h:ValC b W p a)(hc:c<=b):ValC c W p a:=h
def RowW(b:Nat)(W:World)(v:Value)(n:Nat)(C:Nat->Vv):Prop:=
 ∃pa cap,v=.slice pa n cap/\(0<n->∃a:Addr,pa=some a/\n<=cap/\b<=a.block/\∀i,i<n->ValC b W (a.add (i*5)) (C i))
theorem RowW.keep(h:RowW b W v n C)(k:Kb b W W'):RowW b W' v n C:=by
 obtain⟨pa,cap,h1,h2⟩:=h;refine⟨pa,cap,h1,λhn=>?_⟩;obtain⟨a,e1,e2,e0,e3⟩:=h2 hn;exact⟨a,e1,e2,e0,λi hi=>(e3 i hi).keep (by rw[add_block];exact e0) k⟩
theorem RowW.mono(h:RowW b W v n C)(hc:c<=b):RowW c W v n C:=by
 obtain⟨pa,cap,h1,h2⟩:=h;refine⟨pa,cap,h1,λhn=>?_⟩;obtain⟨a,e1,e2,e0,e3⟩:=h2 hn;exact⟨a,e1,e2,Nat.le_trans hc e0,λi hi=>(e3 i hi).mono hc⟩
structure CelP (W:World) (b:Addr) (f:Pd) (vu vc vn vd:Value):Prop where
 c0:W.cell? b=some (.string f.x)
 c1:W.cell? ⟨b.block,b.off+1,none⟩=some (.int .i64 f.l)
 c2:W.cell? ⟨b.block,b.off+2,none⟩=some (.int .i64 f.m)
 c3:W.cell? ⟨b.block,b.off+3,none⟩=some (.bool f.r)
 c4:W.cell? ⟨b.block,b.off+4,none⟩=some (.int .i64 f.g)
 c5:W.cell? ⟨b.block,b.off+5,none⟩=some (vu)
 c6:W.cell? ⟨b.block,b.off+6,none⟩=some (vc)
 c7:W.cell? ⟨b.block,b.off+7,none⟩=some (vn)
 c8:W.cell? ⟨b.block,b.off+8,none⟩=some (vd)
theorem CelP.keep{b:Addr}{f:Pd}(h:CelP W b f vu vc vn vd)(hb:c<=b.block)(k:Kb c W W'):CelP W' b f vu vc vn vd:=
 ⟨k.cellA hb h.c0,k.cellA hb h.c1,k.cellA hb h.c2,k.cellA hb h.c3,k.cellA hb h.c4,k.cellA hb h.c5,k.cellA hb h.c6,k.cellA hb h.c7,k.cellA hb h.c8⟩
theorem CelP.of{f:Pd}(h:∀t,t<9->W.cell? ⟨g,o+t,none⟩=([.string f.x,.int .i64 f.l,.int .i64 f.m,.bool f.r,.int .i64 f.g,vu,vc,vn,vd]:List Value)[t]?):CelP W ⟨g,o,none⟩ f vu vc vn vd:=
 ⟨h 0 (by omega),h 1 (by omega),h 2 (by omega),h 3 (by omega),h 4 (by omega),h 5 (by omega),h 6 (by omega),h 7 (by omega),h 8 (by omega)⟩
def ProC(b:Nat)(W:World)(p:Addr)(f:Pd):Prop:=∃vu vc vn vd,CelP W p f vu vc vn vd/\RowU b W vu f.u f.U/\RowW b W vc f.c f.C/\RowI b W vn f.n f.N/\RowM b W vd f.d f.D
theorem ProC.keep{f:Pd}(h:ProC b W p f)(hb:b<=p.block)(k:Kb b W W'):ProC b W' p f:=by
 obtain⟨vu,vc,vn,vd,h1,h2,h3,h4,h5⟩:=h;exact⟨vu,vc,vn,vd,h1.keep hb k,h2.keep k,h3.keep k,h4.keep k,h5.keep k⟩
theorem ProC.mono{f:Pd}(h:ProC b W p f)(hc:c<=b):ProC c W p f:=by
 obtain⟨vu,vc,vn,vd,h1,h2,h3,h4,h5⟩:=h;exact⟨vu,vc,vn,vd,h1,h2.mono hc,h3.mono hc,h4.mono hc,h5.mono hc⟩
def RowP(b:Nat)(W:World)(v:Value)(n:Nat)(F:Nat->Pd):Prop:=
 ∃pa cap,v=.slice pa n cap/\(0<n->∃a:Addr,pa=some a/\n<=cap/\b<=a.block/\∀i,i<n->ProC b W (a.add (i*9)) (F i))
theorem RowP.keep{F:Nat->Pd}(h:RowP b W v n F)(k:Kb b W W'):RowP b W' v n F:=by
 obtain⟨pa,cap,h1,h2⟩:=h;refine⟨pa,cap,h1,λhn=>?_⟩;obtain⟨a,e1,e2,e0,e3⟩:=h2 hn;exact⟨a,e1,e2,e0,λi hi=>(e3 i hi).keep (by rw[add_block];exact e0) k⟩
theorem RowP.mono{F:Nat->Pd}(h:RowP b W v n F)(hc:c<=b):RowP c W v n F:=by
 obtain⟨pa,cap,h1,h2⟩:=h;refine⟨pa,cap,h1,λhn=>?_⟩;obtain⟨a,e1,e2,e0,e3⟩:=h2 hn;exact⟨a,e1,e2,Nat.le_trans hc e0,λi hi=>(e3 i hi).mono hc⟩
theorem dc_iff{p q:Prop}(h:p↔q):dc p=dc q:=by rw[propext h]
theorem bne{a b:Int}(h:a≠b):(a==b)=false:=by simpa using h
theorem beq1{a b:Int}(h:a=b):(a==b)=true:=by simpa using h
def ptb:List (List Nat):=[[0,0,0,0],[1,0,0,0],[2,0,0,0],[0,0,0,0],[12,3,0,0],[12,22,0,0],[13,22,0,0],[12,17,0,0],[17,22,0,0],[12,4,0,0],[4,22,0,0],[12,5,0,0],[12,0,0,0],[16,22,22,0],[16,22,23,0],[12,22,22,0],[22,22,22,0],[12,7,22,0],[12,8,22,22],[6,0,0,0],[22,6,0,0],[22,6,0,0],[14,0,0,0],[18,22,0,0],[18,23,0,0],[12,23,0,0],[12,18,9,0],[14,18,0,0],[14,22,23,0],[23,0,0,0],[22,0,0,0],[6,11,0,0],[0,0,0,0],[10,0,0,0],[10,0,0,0],[22,23,0,0],[0,0,0,0],[19,0,0,0],[19,6,0,0],[19,6,0,0],[21,0,0,0],[20,6,14,0],[15,0,0,0]]
def mtb:List (List Nat):=[[0,0,0,0],[11,0,0,0],[12,0,0,0],[0,0,0,0],[1,7,0,0],[1,2,0,0],[1,2,0,0],[1,5,0,0],[5,2,0,0],[1,8,0,0],[8,2,0,0],[1,9,0,0],[1,0,0,0],[4,2,2,0],[4,2,3,0],[1,2,2,0],[2,2,2,0],[1,15,2,0],[1,16,2,2],[10,0,0,0],[2,10,0,0],[2,10,0,0],[1,0,0,0],[6,2,0,0],[6,3,0,0],[1,3,0,0],[1,6,17,0],[1,6,0,0],[1,2,3,0],[3,0,0,0],[2,0,0,0],[10,14,0,0],[0,0,0,0],[13,0,0,0],[13,0,0,0],[2,3,0,0],[0,0,0,0],[18,0,0,0],[18,10,0,0],[18,10,0,0],[19,0,0,0],[20,10,1,0],[21,0,0,0]]
def pr(o j:Nat):Nat:=(ptb.getD o []).getD j 0
def mr(o j:Nat):Nat:=(mtb.getD o []).getD j 0
def pcl(r:Nat):Nat:=([0,1,2,3,4,5,6,7,8,9,10,11,12,12,12,12,12,12,12,13,11,11,14,14]:List Nat).getD r 0
def mcl(r:Nat):Nat:=([0,12,14,14,12,12,12,3,4,5,6,1,2,10,11,7,8,9,13,11,11,12]:List Nat).getD r 0
theorem cl_eq0:∀o,o<43->∀j,j<4->pcl (pr o j)=mcl (mr o j)/\pr o j<24/\mr o j<22:=by decide
def rg(np:Nat)(q:Pd)(c:Nat):Int×Int:=
 match c with
 |0=>(0,0)
 |1=>(1,100000)
 |2=>(0,100000)
 |3=>(0,(q.c:Int)-1)
 |4=>(0,(q.u:Int)-1)
 |5=>(0,(np:Int)-1)
 |6=>(0,(q.n:Int)-1)
 |7=>(19,22)
 |8=>(1,18)
 |9=>(0,250)
 |10=>(0,q.g)
 |11=>(0,q.g-2)
 |12=>(0,q.g-1)
 |13=>(0,q.g-3)
 |_=>(-q.g,q.g-1)
def Fit(np:Nat)(q:Pd)(c:Nat)(x:Int):Prop:=(rg np q c).1<=x/\x<=(rg np q c).2
def fld(v:Iv)(j:Nat):Int:=match j with|0=>v.a|1=>v.b|2=>v.c|_=>v.d
def Tok(np:Nat)(q:Pd)(v:Iv):Prop:=1<=v.o/\v.o<=42/\∀j,j<4->Fit np q (pcl (pr v.o.toNat j)) (fld v j)
def Ends(o:Int):Prop:=o=19\/o=29\/o=30
def Iok(np:Nat)(q:Pd)(i:Nat):Prop:=Tok np q (q.N i)/\(i+1=q.n->Ends (q.N i).o)
def Hd(p:Nat)(d:Pd):Prop:=d.x.size<=40/\(0<=d.l/\d.l<=100000)/\(0<=d.g/\d.g<=250)/\(0<=d.m/\d.m<=(if d.r=true then d.g-1 else d.g))/\d.u<=250/\d.c<=500/\(0<p\/(d.m=0/\d.u=0))
def Cok(v:Vv):Prop:=vok v/\(v.k≠5/\v.k≠6/\v.k≠7)/\(v.k=3->FloatKind.f64.format.order v.g v.g=some .eq)/\(v.k≠3->v.g=0)
def Nok(d:Pd)(i:Nat):Prop:=i<500/\(1<=(d.D i).x.size/\(d.D i).x.size<=40)/\(0<=(d.D i).g/\(d.D i).g<=d.g-1)/\0<=(d.D i).f/\(d.D i).f<=(d.D i).t/\(d.D i).t<=(d.n:Int)
def Uok(d:Pd)(e:Pd):Prop:=∀j,j<e.u->0<=(e.U j).2/\(e.U j).2<(if(e.U j).1=true then d.g else(d.u:Int))
def Fb(P:Nat->Prop)(n:Nat)(r:Int):Prop:=(r=-1/\∀j,j<n->P j)\/∃j:Nat,r=(j:Int)/\j<n/\¬P j/\∀i,i<j->P i
theorem vok_g{v:Vv}(h:vok v)(h3:v.k≠3)(hg:v.g<18446744073709551616):v.g=0\/v.g=9223372036854775808:=by
 have hz:Go.Proofs.YtohbcpfjjimdnaaGreatDoor.fz v.g:=by
  unfold vok zr at h;rcases h with h|h|h|h|h|h|h|h|h
  all_goals first
   |exact absurd h.1 h3
   |(have q:=h.2.1.2.1;simpa using q)
 rcases Flt.zero_cases v.g hg with q|⟨_,_,q⟩|⟨_,q⟩
 ·rcases Flt.order_cases v.g 0 with⟨_,e⟩|⟨e,_⟩|⟨e,_⟩
  ·unfold Go.Proofs.YtohbcpfjjimdnaaGreatDoor.fz at hz;rw[e]at hz;cases hz
  ·rw[q]at e;cases e
  ·rw[q]at e;cases e
 ·exact q
 ·unfold Go.Proofs.YtohbcpfjjimdnaaGreatDoor.fz at hz;rcases q with q|q<;>(rw[q]at hz;cases hz)
theorem flt_c(g:Nat):FloatKind.f64.format.order g g=none\/FloatKind.f64.format.order g g=some .eq:=by
 rcases Flt.order_cases g g with⟨e,_⟩|⟨e,_⟩|⟨e,_⟩
 ·exact .inl e
 ·exact .inr e
 ·exact .inr e
theorem nan_t(h:FloatKind.f64.format.order g g=none)(w:World):Calls Tryz.prog 133 #[.float .f64 g] w λe w'=>e=.returned (.bool true)/\w'=w:=by
 go_enter Tryz.func133,Tryz.ntmps133;go_wp2;go_ret;exact⟨rfl,rfl⟩
theorem nan_f(h:FloatKind.f64.format.order g g=some .eq)(w:World):Calls Tryz.prog 133 #[.float .f64 g] w λe w'=>e=.returned (.bool false)/\w'=w:=by
 go_enter Tryz.func133,Tryz.ntmps133;go_wp2;go_ret;exact⟨rfl,rfl⟩
theorem bits_ext(x:Nat)(w:World):(callFunc 145 #[.float .f64 x]).run Tryz.prog w=.ok (.value (.int .u64 x)) w:=by
 rw[run_callFunc_extern (e:=Extern.MathFloatBits.float64bits) Tryz.func145 (by kernel_rfl) (by kernel_rfl) (by kernel_rfl) (by kernel_rfl)];rfl
theorem sign_f(w:World):Calls Tryz.prog 135 #[.float .f64 0] w λe w'=>e=.returned (.bool false)/\w'=w:=by
 have hb:=bits_ext 0;go_enter Tryz.func135,Tryz.ntmps135;go_wp2_with fail;go_ret;exact⟨rfl,rfl⟩
theorem sign_t(w:World):Calls Tryz.prog 135 #[.float .f64 9223372036854775808] w λe w'=>e=.returned (.bool true)/\w'=w:=by
 have hb:=bits_ext 9223372036854775808;have hc:IntKind.i64.wrap 9223372036854775808=-9223372036854775808:=by decide
 go_enter Tryz.func135,Tryz.ntmps135;go_wp2_with fail;go_ret;exact⟨rfl,rfl⟩
theorem thing_t(h:k=5\/k=6\/k=7)(w:World):Calls Tryz.prog 134 #[.agg #[.int .i64 k,.int .i64 m,.float .f64 g,.string x,.int .i64 r]] w λe w'=>e=.returned (.bool true)/\Kb 0 w w':=by
 rcases h with rfl|rfl|rfl
 all_goals
  go_enter Tryz.func134,Tryz.ntmps134;go_wp2_with fail;go_ret;exact⟨rfl,kb_alloc _ _ _⟩
theorem thing_f(h:k≠5/\k≠6/\k≠7)(w:World):Calls Tryz.prog 134 #[.agg #[.int .i64 k,.int .i64 m,.float .f64 g,.string x,.int .i64 r]] w λe w'=>e=.returned (.bool false)/\Kb 0 w w':=by
 have h5:=bne h.1;have h6:=bne h.2.1;have h7:=bne h.2.2;go_enter Tryz.func134,Tryz.ntmps134;go_wp2_with fail;go_ret;exact⟨rfl,kb_alloc _ _ _⟩
theorem sp_const(v:Vv)(hx:(v.x.size:Int)<=1048576)(hg:v.g<18446744073709551616)(w:World):Calls Tryz.prog 99 #[valv v] w λe w'=>e=.returned (.bool (dc (Cok v)))/\Kb 0 w w':=by
 have HO:∀W,Calls Tryz.prog 130 #[vv v] W λe w'=>e=.returned (.bool (dc (vok v)))/\Kb 0 W w':=λW=>by
  refine(sp_ok v hx W).mono ?_;rintro e w' ⟨rfl,h⟩;exact⟨rfl,Kb.of_grown h h.2.2 0⟩
 have hvg:=λh h3=>vok_g (v:=v) h h3 hg;have hfc:=flt_c v.g;unfold valv;unfold vv at HO;by_cases hv:vok v
 rotate_left
 ·rw[dc_f (λq=>hv q.1)];rw[dc_f hv]at HO;obtain⟨k,m,g,x,r⟩:=v;clear hvg hv;dsimp only at*;by_cases h3:k=3
  ·subst h3;go_enter Tryz.func99,Tryz.ntmps99;go_wp2_with fail;refine(HO _).mono ?_;rintro e w1 ⟨rfl,k1⟩;have q0:w1.cell? ⟨w.heap.size,0,none⟩=some (.int .i64 3):=k1.cell (cell_of (alloc_new w _ _) rfl);have q1:w1.cell? ⟨w.heap.size,1,none⟩=some (.int .i64 m):=k1.cell (cell_of (alloc_new w _ _) rfl);have q2:w1.cell? ⟨w.heap.size,2,none⟩=some (.float .f64 g):=k1.cell (cell_of (alloc_new w _ _) rfl);have q3:w1.cell? ⟨w.heap.size,3,none⟩=some (.string x):=k1.cell (cell_of (alloc_new w _ _) rfl);have q4:w1.cell? ⟨w.heap.size,4,none⟩=some (.int .i64 r):=k1.cell (cell_of (alloc_new w _ _) rfl);have HK:Hid (Kb 0 w w1):=(kb_alloc _ _ _).trans k1;clear k1;go_wp2_with fail;go_ret;exact⟨rfl,HK⟩
  ·have h3:=bne h3;go_enter Tryz.func99,Tryz.ntmps99;go_wp2_with fail;refine(HO _).mono ?_;rintro e w1 ⟨rfl,k1⟩;have q0:w1.cell? ⟨w.heap.size,0,none⟩=some (.int .i64 k):=k1.cell (cell_of (alloc_new w _ _) rfl);have q1:w1.cell? ⟨w.heap.size,1,none⟩=some (.int .i64 m):=k1.cell (cell_of (alloc_new w _ _) rfl);have q2:w1.cell? ⟨w.heap.size,2,none⟩=some (.float .f64 g):=k1.cell (cell_of (alloc_new w _ _) rfl);have q3:w1.cell? ⟨w.heap.size,3,none⟩=some (.string x):=k1.cell (cell_of (alloc_new w _ _) rfl);have q4:w1.cell? ⟨w.heap.size,4,none⟩=some (.int .i64 r):=k1.cell (cell_of (alloc_new w _ _) rfl);have HK:Hid (Kb 0 w w1):=(kb_alloc _ _ _).trans k1;clear k1;go_wp2_with fail;go_ret;exact⟨rfl,HK⟩
 rw[dc_t hv]at HO;by_cases h5:v.k=5\/v.k=6\/v.k=7
 ·rw[dc_f (λq=>h5.elim q.2.1.1 (λh=>h.elim q.2.1.2.1 q.2.1.2.2))];obtain⟨k,m,g,x,r⟩:=v;clear hvg hv hfc;dsimp only at*;have HT:=λw=>thing_t (m:=m) (g:=g) (x:=x) (r:=r) h5 w;rcases h5 with rfl|rfl|rfl
  ·skip
   go_enter Tryz.func99,Tryz.ntmps99;go_wp2_with fail;refine(HO _).mono ?_;rintro e w1 ⟨rfl,k1⟩;have q0:w1.cell? ⟨w.heap.size,0,none⟩=some (.int .i64 5):=k1.cell (cell_of (alloc_new w _ _) rfl);have q1:w1.cell? ⟨w.heap.size,1,none⟩=some (.int .i64 m):=k1.cell (cell_of (alloc_new w _ _) rfl);have q2:w1.cell? ⟨w.heap.size,2,none⟩=some (.float .f64 g):=k1.cell (cell_of (alloc_new w _ _) rfl);have q3:w1.cell? ⟨w.heap.size,3,none⟩=some (.string x):=k1.cell (cell_of (alloc_new w _ _) rfl);have q4:w1.cell? ⟨w.heap.size,4,none⟩=some (.int .i64 r):=k1.cell (cell_of (alloc_new w _ _) rfl);have HK:Hid (Kb 0 w w1):=(kb_alloc _ _ _).trans k1;clear k1;go_wp2_with fail;go_ret;exact⟨rfl,HK⟩
  ·skip
   go_enter Tryz.func99,Tryz.ntmps99;go_wp2_with fail;refine(HO _).mono ?_;rintro e w1 ⟨rfl,k1⟩;have q0:w1.cell? ⟨w.heap.size,0,none⟩=some (.int .i64 6):=k1.cell (cell_of (alloc_new w _ _) rfl);have q1:w1.cell? ⟨w.heap.size,1,none⟩=some (.int .i64 m):=k1.cell (cell_of (alloc_new w _ _) rfl);have q2:w1.cell? ⟨w.heap.size,2,none⟩=some (.float .f64 g):=k1.cell (cell_of (alloc_new w _ _) rfl);have q3:w1.cell? ⟨w.heap.size,3,none⟩=some (.string x):=k1.cell (cell_of (alloc_new w _ _) rfl);have q4:w1.cell? ⟨w.heap.size,4,none⟩=some (.int .i64 r):=k1.cell (cell_of (alloc_new w _ _) rfl);have HK:Hid (Kb 0 w w1):=(kb_alloc _ _ _).trans k1;clear k1;go_wp2_with fail;go_ret;exact⟨rfl,HK⟩
  ·skip
   go_enter Tryz.func99,Tryz.ntmps99;go_wp2_with fail;refine(HO _).mono ?_;rintro e w1 ⟨rfl,k1⟩;have q0:w1.cell? ⟨w.heap.size,0,none⟩=some (.int .i64 7):=k1.cell (cell_of (alloc_new w _ _) rfl);have q1:w1.cell? ⟨w.heap.size,1,none⟩=some (.int .i64 m):=k1.cell (cell_of (alloc_new w _ _) rfl);have q2:w1.cell? ⟨w.heap.size,2,none⟩=some (.float .f64 g):=k1.cell (cell_of (alloc_new w _ _) rfl);have q3:w1.cell? ⟨w.heap.size,3,none⟩=some (.string x):=k1.cell (cell_of (alloc_new w _ _) rfl);have q4:w1.cell? ⟨w.heap.size,4,none⟩=some (.int .i64 r):=k1.cell (cell_of (alloc_new w _ _) rfl);have HK:Hid (Kb 0 w w1):=(kb_alloc _ _ _).trans k1;clear k1;go_wp2_with fail;go_ret;exact⟨rfl,HK⟩
 have h5a:v.k≠5:=λh=>h5 (.inl h);have h6a:v.k≠6:=λh=>h5 (.inr (.inl h));have h7a:v.k≠7:=λh=>h5 (.inr (.inr h));by_cases h3:v.k=3
 ·rcases hfc with hf|hf
  ·rw[dc_f (λq=>(by have:=q.2.2.1 h3;rw[hf]at this;cases this))];obtain⟨k,m,g,x,r⟩:=v;clear hvg hv h5 h5a h6a h7a;dsimp only at*;subst h3;go_enter Tryz.func99,Tryz.ntmps99;go_wp2_with fail;refine(HO _).mono ?_;rintro e w1 ⟨rfl,k1⟩;have q0:w1.cell? ⟨w.heap.size,0,none⟩=some (.int .i64 3):=k1.cell (cell_of (alloc_new w _ _) rfl);have q1:w1.cell? ⟨w.heap.size,1,none⟩=some (.int .i64 m):=k1.cell (cell_of (alloc_new w _ _) rfl);have q2:w1.cell? ⟨w.heap.size,2,none⟩=some (.float .f64 g):=k1.cell (cell_of (alloc_new w _ _) rfl);have q3:w1.cell? ⟨w.heap.size,3,none⟩=some (.string x):=k1.cell (cell_of (alloc_new w _ _) rfl);have q4:w1.cell? ⟨w.heap.size,4,none⟩=some (.int .i64 r):=k1.cell (cell_of (alloc_new w _ _) rfl);have HK:Hid (Kb 0 w w1):=(kb_alloc _ _ _).trans k1;clear k1;go_wp2_with fail;go_ret;exact⟨rfl,HK⟩
  ·rw[dc_t ⟨hv,⟨h5a,h6a,h7a⟩,λ_=>hf,λh=>absurd h3 h⟩];obtain⟨k,m,g,x,r⟩:=v;clear hvg hv h5 h5a h6a h7a;dsimp only at*;subst h3;go_enter Tryz.func99,Tryz.ntmps99;go_wp2_with fail;refine(HO _).mono ?_;rintro e w1 ⟨rfl,k1⟩;have q0:w1.cell? ⟨w.heap.size,0,none⟩=some (.int .i64 3):=k1.cell (cell_of (alloc_new w _ _) rfl);have q1:w1.cell? ⟨w.heap.size,1,none⟩=some (.int .i64 m):=k1.cell (cell_of (alloc_new w _ _) rfl);have q2:w1.cell? ⟨w.heap.size,2,none⟩=some (.float .f64 g):=k1.cell (cell_of (alloc_new w _ _) rfl);have q3:w1.cell? ⟨w.heap.size,3,none⟩=some (.string x):=k1.cell (cell_of (alloc_new w _ _) rfl);have q4:w1.cell? ⟨w.heap.size,4,none⟩=some (.int .i64 r):=k1.cell (cell_of (alloc_new w _ _) rfl);have HK:Hid (Kb 0 w w1):=(kb_alloc _ _ _).trans k1;clear k1;go_wp2_with fail;go_ret;exact⟨rfl,HK⟩
 rcases hvg hv h3 with hz|hz
 ·rw[dc_t ⟨hv,⟨h5a,h6a,h7a⟩,λh=>absurd h h3,λ_=>hz⟩];obtain⟨k,m,g,x,r⟩:=v;clear hvg hv h5 hfc;dsimp only at*;subst hz;have HT:=λw=>thing_f (m:=m) (g:=0) (x:=x) (r:=r) ⟨h5a,h6a,h7a⟩ w;have h3:=bne h3;have h5:=bne h5a;have h6:=bne h6a;have h7:=bne h7a;have hq:=quo_run (x:=0) (r:=9218868437227405312) (by decide);have hgt:FloatKind.f64.format.order 9218868437227405312 0=some .gt:=by decide
  have hz0:FloatKind.f64.format.order 0 0=some .eq:=by decide
  go_enter Tryz.func99,Tryz.ntmps99;go_wp2_with fail;refine(HO _).mono ?_;rintro e w1 ⟨rfl,k1⟩;have q0:w1.cell? ⟨w.heap.size,0,none⟩=some (.int .i64 k):=k1.cell (cell_of (alloc_new w _ _) rfl);have q1:w1.cell? ⟨w.heap.size,1,none⟩=some (.int .i64 m):=k1.cell (cell_of (alloc_new w _ _) rfl);have q2:w1.cell? ⟨w.heap.size,2,none⟩=some (.float .f64 0):=k1.cell (cell_of (alloc_new w _ _) rfl);have q3:w1.cell? ⟨w.heap.size,3,none⟩=some (.string x):=k1.cell (cell_of (alloc_new w _ _) rfl);have q4:w1.cell? ⟨w.heap.size,4,none⟩=some (.int .i64 r):=k1.cell (cell_of (alloc_new w _ _) rfl);have HK:Hid (Kb 0 w w1):=(kb_alloc _ _ _).trans k1;clear k1;go_wp2;go_ret;exact⟨rfl,HK⟩
 ·rw[dc_f (λq=>(by have:=q.2.2.2 h3;rw[hz]at this;cases this))];obtain⟨k,m,g,x,r⟩:=v;clear hvg hv h5 hfc;dsimp only at*;subst hz;have HT:=λw=>thing_f (m:=m) (g:=9223372036854775808) (x:=x) (r:=r) ⟨h5a,h6a,h7a⟩ w;have h3:=bne h3;have h5:=bne h5a;have h6:=bne h6a;have h7:=bne h7a;have hq:=quo_run (x:=9223372036854775808) (r:=18442240474082181120) (by decide);have hgt:FloatKind.f64.format.order 18442240474082181120 0=some .lt:=by decide
  have hz0:FloatKind.f64.format.order 9223372036854775808 0=some .eq:=by decide
  go_enter Tryz.func99,Tryz.ntmps99;go_wp2_with fail;refine(HO _).mono ?_;rintro e w1 ⟨rfl,k1⟩;have q0:w1.cell? ⟨w.heap.size,0,none⟩=some (.int .i64 k):=k1.cell (cell_of (alloc_new w _ _) rfl);have q1:w1.cell? ⟨w.heap.size,1,none⟩=some (.int .i64 m):=k1.cell (cell_of (alloc_new w _ _) rfl);have q2:w1.cell? ⟨w.heap.size,2,none⟩=some (.float .f64 9223372036854775808):=k1.cell (cell_of (alloc_new w _ _) rfl);have q3:w1.cell? ⟨w.heap.size,3,none⟩=some (.string x):=k1.cell (cell_of (alloc_new w _ _) rfl);have q4:w1.cell? ⟨w.heap.size,4,none⟩=some (.int .i64 r):=k1.cell (cell_of (alloc_new w _ _) rfl);have HK:Hid (Kb 0 w w1):=(kb_alloc _ _ _).trans k1;clear k1;go_wp2;go_ret;exact⟨rfl,HK⟩
theorem im_nocon(v:Vv)(hx:(v.x.size:Int)<=1048576)(hg:v.g<18446744073709551616)(w:World):Calls Tryz.prog 108 #[valv v] w λe w'=>e=.returned (.bool (dc (¬Cok v)))/\Kb 0 w w':=by
 have HO:∀W,Calls Tryz.prog 132 #[vv v] W λe w'=>e=.returned (.bool (dc (vok v)))/\Kb 0 W w':=λW=>by
  refine(im_ok v hx W).mono ?_;rintro e w' ⟨rfl,h⟩;exact⟨rfl,Kb.of_grown h h.2.2 0⟩
 have hvg:=λh h3=>vok_g (v:=v) h h3 hg;have hfc:=flt_c v.g;unfold valv;unfold vv at HO;by_cases hv:vok v
 rotate_left
 ·rw[dc_t (λq:Cok _=>hv q.1)];rw[dc_f hv]at HO;obtain⟨k,m,g,x,r⟩:=v;clear hvg hv;dsimp only at*;by_cases h3:k=3
  ·subst h3;go_enter Tryz.func108,Tryz.ntmps108;go_wp2_with fail;refine(HO _).mono ?_;rintro e w1 ⟨rfl,k1⟩;have q0:w1.cell? ⟨w.heap.size,0,none⟩=some (.int .i64 3):=k1.cell (cell_of (alloc_new w _ _) rfl);have q1:w1.cell? ⟨w.heap.size,1,none⟩=some (.int .i64 m):=k1.cell (cell_of (alloc_new w _ _) rfl);have q2:w1.cell? ⟨w.heap.size,2,none⟩=some (.float .f64 g):=k1.cell (cell_of (alloc_new w _ _) rfl);have q3:w1.cell? ⟨w.heap.size,3,none⟩=some (.string x):=k1.cell (cell_of (alloc_new w _ _) rfl);have q4:w1.cell? ⟨w.heap.size,4,none⟩=some (.int .i64 r):=k1.cell (cell_of (alloc_new w _ _) rfl);have HK:Hid (Kb 0 w w1):=(kb_alloc _ _ _).trans k1;clear k1;go_wp2_with fail;go_ret;exact⟨rfl,HK⟩
  ·have h3:=bne h3;go_enter Tryz.func108,Tryz.ntmps108;go_wp2_with fail;refine(HO _).mono ?_;rintro e w1 ⟨rfl,k1⟩;have q0:w1.cell? ⟨w.heap.size,0,none⟩=some (.int .i64 k):=k1.cell (cell_of (alloc_new w _ _) rfl);have q1:w1.cell? ⟨w.heap.size,1,none⟩=some (.int .i64 m):=k1.cell (cell_of (alloc_new w _ _) rfl);have q2:w1.cell? ⟨w.heap.size,2,none⟩=some (.float .f64 g):=k1.cell (cell_of (alloc_new w _ _) rfl);have q3:w1.cell? ⟨w.heap.size,3,none⟩=some (.string x):=k1.cell (cell_of (alloc_new w _ _) rfl);have q4:w1.cell? ⟨w.heap.size,4,none⟩=some (.int .i64 r):=k1.cell (cell_of (alloc_new w _ _) rfl);have HK:Hid (Kb 0 w w1):=(kb_alloc _ _ _).trans k1;clear k1;go_wp2_with fail;go_ret;exact⟨rfl,HK⟩
 rw[dc_t hv]at HO;by_cases h5:v.k=5\/v.k=6\/v.k=7
 ·rw[dc_t (λq:Cok _=>h5.elim q.2.1.1 (λh=>h.elim q.2.1.2.1 q.2.1.2.2))];obtain⟨k,m,g,x,r⟩:=v;clear hvg hv hfc;dsimp only at*;have HT:=λw=>thing_t (m:=m) (g:=g) (x:=x) (r:=r) h5 w;rcases h5 with rfl|rfl|rfl
  ·skip
   go_enter Tryz.func108,Tryz.ntmps108;go_wp2_with fail;refine(HO _).mono ?_;rintro e w1 ⟨rfl,k1⟩;have q0:w1.cell? ⟨w.heap.size,0,none⟩=some (.int .i64 5):=k1.cell (cell_of (alloc_new w _ _) rfl);have q1:w1.cell? ⟨w.heap.size,1,none⟩=some (.int .i64 m):=k1.cell (cell_of (alloc_new w _ _) rfl);have q2:w1.cell? ⟨w.heap.size,2,none⟩=some (.float .f64 g):=k1.cell (cell_of (alloc_new w _ _) rfl);have q3:w1.cell? ⟨w.heap.size,3,none⟩=some (.string x):=k1.cell (cell_of (alloc_new w _ _) rfl);have q4:w1.cell? ⟨w.heap.size,4,none⟩=some (.int .i64 r):=k1.cell (cell_of (alloc_new w _ _) rfl);have HK:Hid (Kb 0 w w1):=(kb_alloc _ _ _).trans k1;clear k1;go_wp2_with fail;refine(HT _).mono ?_;rintro e w2 ⟨rfl,k2⟩;have HK2:Hid (Kb 0 w w2):=(uh HK).trans k2;clear k2 HK;go_wp2_with fail;go_ret;exact⟨rfl,HK2⟩
  ·skip
   go_enter Tryz.func108,Tryz.ntmps108;go_wp2_with fail;refine(HO _).mono ?_;rintro e w1 ⟨rfl,k1⟩;have q0:w1.cell? ⟨w.heap.size,0,none⟩=some (.int .i64 6):=k1.cell (cell_of (alloc_new w _ _) rfl);have q1:w1.cell? ⟨w.heap.size,1,none⟩=some (.int .i64 m):=k1.cell (cell_of (alloc_new w _ _) rfl);have q2:w1.cell? ⟨w.heap.size,2,none⟩=some (.float .f64 g):=k1.cell (cell_of (alloc_new w _ _) rfl);have q3:w1.cell? ⟨w.heap.size,3,none⟩=some (.string x):=k1.cell (cell_of (alloc_new w _ _) rfl);have q4:w1.cell? ⟨w.heap.size,4,none⟩=some (.int .i64 r):=k1.cell (cell_of (alloc_new w _ _) rfl);have HK:Hid (Kb 0 w w1):=(kb_alloc _ _ _).trans k1;clear k1;go_wp2_with fail;refine(HT _).mono ?_;rintro e w2 ⟨rfl,k2⟩;have HK2:Hid (Kb 0 w w2):=(uh HK).trans k2;clear k2 HK;go_wp2_with fail;go_ret;exact⟨rfl,HK2⟩
  ·skip
   go_enter Tryz.func108,Tryz.ntmps108;go_wp2_with fail;refine(HO _).mono ?_;rintro e w1 ⟨rfl,k1⟩;have q0:w1.cell? ⟨w.heap.size,0,none⟩=some (.int .i64 7):=k1.cell (cell_of (alloc_new w _ _) rfl);have q1:w1.cell? ⟨w.heap.size,1,none⟩=some (.int .i64 m):=k1.cell (cell_of (alloc_new w _ _) rfl);have q2:w1.cell? ⟨w.heap.size,2,none⟩=some (.float .f64 g):=k1.cell (cell_of (alloc_new w _ _) rfl);have q3:w1.cell? ⟨w.heap.size,3,none⟩=some (.string x):=k1.cell (cell_of (alloc_new w _ _) rfl);have q4:w1.cell? ⟨w.heap.size,4,none⟩=some (.int .i64 r):=k1.cell (cell_of (alloc_new w _ _) rfl);have HK:Hid (Kb 0 w w1):=(kb_alloc _ _ _).trans k1;clear k1;go_wp2_with fail;refine(HT _).mono ?_;rintro e w2 ⟨rfl,k2⟩;have HK2:Hid (Kb 0 w w2):=(uh HK).trans k2;clear k2 HK;go_wp2_with fail;go_ret;exact⟨rfl,HK2⟩
 have h5a:v.k≠5:=λh=>h5 (.inl h);have h6a:v.k≠6:=λh=>h5 (.inr (.inl h));have h7a:v.k≠7:=λh=>h5 (.inr (.inr h));by_cases h3:v.k=3
 ·rcases hfc with hf|hf
  ·rw[dc_t (λq:Cok _=>(by have:=q.2.2.1 h3;rw[hf]at this;cases this))];obtain⟨k,m,g,x,r⟩:=v;clear hvg hv h5 h5a h6a h7a;dsimp only at*;subst h3;go_enter Tryz.func108,Tryz.ntmps108;go_wp2_with fail;refine(HO _).mono ?_;rintro e w1 ⟨rfl,k1⟩;have q0:w1.cell? ⟨w.heap.size,0,none⟩=some (.int .i64 3):=k1.cell (cell_of (alloc_new w _ _) rfl);have q1:w1.cell? ⟨w.heap.size,1,none⟩=some (.int .i64 m):=k1.cell (cell_of (alloc_new w _ _) rfl);have q2:w1.cell? ⟨w.heap.size,2,none⟩=some (.float .f64 g):=k1.cell (cell_of (alloc_new w _ _) rfl);have q3:w1.cell? ⟨w.heap.size,3,none⟩=some (.string x):=k1.cell (cell_of (alloc_new w _ _) rfl);have q4:w1.cell? ⟨w.heap.size,4,none⟩=some (.int .i64 r):=k1.cell (cell_of (alloc_new w _ _) rfl);have HK:Hid (Kb 0 w w1):=(kb_alloc _ _ _).trans k1;clear k1;go_wp2_with (go_at_call 133;refine(nan_t hf _).mono ?_;rintro e w2 ⟨rfl,rfl⟩);go_ret;exact⟨rfl,HK⟩
  ·rw[dc_f (not_not_intro ⟨hv,⟨h5a,h6a,h7a⟩,λ_=>hf,λh=>absurd h3 h⟩)];obtain⟨k,m,g,x,r⟩:=v;clear hvg hv h5 h5a h6a h7a;dsimp only at*;subst h3;go_enter Tryz.func108,Tryz.ntmps108;go_wp2_with fail;refine(HO _).mono ?_;rintro e w1 ⟨rfl,k1⟩;have q0:w1.cell? ⟨w.heap.size,0,none⟩=some (.int .i64 3):=k1.cell (cell_of (alloc_new w _ _) rfl);have q1:w1.cell? ⟨w.heap.size,1,none⟩=some (.int .i64 m):=k1.cell (cell_of (alloc_new w _ _) rfl);have q2:w1.cell? ⟨w.heap.size,2,none⟩=some (.float .f64 g):=k1.cell (cell_of (alloc_new w _ _) rfl);have q3:w1.cell? ⟨w.heap.size,3,none⟩=some (.string x):=k1.cell (cell_of (alloc_new w _ _) rfl);have q4:w1.cell? ⟨w.heap.size,4,none⟩=some (.int .i64 r):=k1.cell (cell_of (alloc_new w _ _) rfl);have HK:Hid (Kb 0 w w1):=(kb_alloc _ _ _).trans k1;clear k1;go_wp2_with (go_at_call 133;refine(nan_f hf _).mono ?_;rintro e w2 ⟨rfl,rfl⟩);go_ret;exact⟨rfl,HK⟩
 rcases hvg hv h3 with hz|hz
 ·rw[dc_f (not_not_intro ⟨hv,⟨h5a,h6a,h7a⟩,λh=>absurd h h3,λ_=>hz⟩)];obtain⟨k,m,g,x,r⟩:=v;clear hvg hv h5 hfc;dsimp only at*;subst hz;have HT:=λw=>thing_f (m:=m) (g:=0) (x:=x) (r:=r) ⟨h5a,h6a,h7a⟩ w;have h3:=bne h3;have h5:=bne h5a;have h6:=bne h6a;have h7:=bne h7a;have hq:=quo_run (x:=0) (r:=9218868437227405312) (by decide);have hgt:FloatKind.f64.format.order 9218868437227405312 0=some .gt:=by decide
  have hz0:FloatKind.f64.format.order 0 0=some .eq:=by decide
  go_enter Tryz.func108,Tryz.ntmps108;go_wp2_with fail;refine(HO _).mono ?_;rintro e w1 ⟨rfl,k1⟩;have q0:w1.cell? ⟨w.heap.size,0,none⟩=some (.int .i64 k):=k1.cell (cell_of (alloc_new w _ _) rfl);have q1:w1.cell? ⟨w.heap.size,1,none⟩=some (.int .i64 m):=k1.cell (cell_of (alloc_new w _ _) rfl);have q2:w1.cell? ⟨w.heap.size,2,none⟩=some (.float .f64 0):=k1.cell (cell_of (alloc_new w _ _) rfl);have q3:w1.cell? ⟨w.heap.size,3,none⟩=some (.string x):=k1.cell (cell_of (alloc_new w _ _) rfl);have q4:w1.cell? ⟨w.heap.size,4,none⟩=some (.int .i64 r):=k1.cell (cell_of (alloc_new w _ _) rfl);have HK:Hid (Kb 0 w w1):=(kb_alloc _ _ _).trans k1;clear k1;go_wp2_with fail;refine(HT _).mono ?_;rintro e w2 ⟨rfl,k2⟩;have p2:w2.cell? ⟨w.heap.size,2,none⟩=some (.float .f64 0):=k2.cell q2;have HK2:Hid (Kb 0 w w2):=(uh HK).trans k2;clear k2 HK q0 q1 q2 q3 q4;go_wp2_with (go_at_call 135;refine(sign_f _).mono ?_;rintro e w3 ⟨rfl,rfl⟩);go_ret;exact⟨rfl,HK2⟩
 ·rw[dc_t (λq:Cok _=>(by have:=q.2.2.2 h3;rw[hz]at this;cases this))];obtain⟨k,m,g,x,r⟩:=v;clear hvg hv h5 hfc;dsimp only at*;subst hz;have HT:=λw=>thing_f (m:=m) (g:=9223372036854775808) (x:=x) (r:=r) ⟨h5a,h6a,h7a⟩ w;have h3:=bne h3;have h5:=bne h5a;have h6:=bne h6a;have h7:=bne h7a;have hq:=quo_run (x:=9223372036854775808) (r:=18442240474082181120) (by decide);have hgt:FloatKind.f64.format.order 18442240474082181120 0=some .lt:=by decide
  have hz0:FloatKind.f64.format.order 9223372036854775808 0=some .eq:=by decide
  go_enter Tryz.func108,Tryz.ntmps108;go_wp2_with fail;refine(HO _).mono ?_;rintro e w1 ⟨rfl,k1⟩;have q0:w1.cell? ⟨w.heap.size,0,none⟩=some (.int .i64 k):=k1.cell (cell_of (alloc_new w _ _) rfl);have q1:w1.cell? ⟨w.heap.size,1,none⟩=some (.int .i64 m):=k1.cell (cell_of (alloc_new w _ _) rfl);have q2:w1.cell? ⟨w.heap.size,2,none⟩=some (.float .f64 9223372036854775808):=k1.cell (cell_of (alloc_new w _ _) rfl);have q3:w1.cell? ⟨w.heap.size,3,none⟩=some (.string x):=k1.cell (cell_of (alloc_new w _ _) rfl);have q4:w1.cell? ⟨w.heap.size,4,none⟩=some (.int .i64 r):=k1.cell (cell_of (alloc_new w _ _) rfl);have HK:Hid (Kb 0 w w1):=(kb_alloc _ _ _).trans k1;clear k1;go_wp2_with fail;refine(HT _).mono ?_;rintro e w2 ⟨rfl,k2⟩;have p2:w2.cell? ⟨w.heap.size,2,none⟩=some (.float .f64 9223372036854775808):=k2.cell q2;have HK2:Hid (Kb 0 w w2):=(uh HK).trans k2;clear k2 HK q0 q1 q2 q3 q4;go_wp2_with (go_at_call 135;refine(sign_t _).mono ?_;rintro e w3 ⟨rfl,rfl⟩);go_ret;exact⟨rfl,HK2⟩
