import Derived.Test.YtkhdehngobkkfaaGreatDoorATud
set_option maxRecDepth 100000
set_option maxHeartbeats 40000000
namespace Go.Proofs.YtkhdehngobkkfaaGreatDoor.Fo
open Go.ChangeShapes Go.WideShapes Go.ChangeAt Go.RowKit
set_option linter.unusedVariables false
variable {W W' w a:World}{b n p q:Nat}{nm fl:ByteArray->Prop}{x:ByteArray}{F:Nat->Gv}{A:Nat->ByteArray}{K:Nat->Int}{v vn vk:Value}
structure Rw where
 kl:Int
 kh:Int
 nl:Int
 nh:Int
 ol:Int
 oh:Int
 ml:Int
 mh:Int
 t:Int
def rwv(r:Rw):Value:=.agg #[.int .i64 r.kl,.int .i64 r.kh,.int .i64 r.nl,.int .i64 r.nh,.int .i64 r.ol,.int .i64 r.oh,.int .i64 r.ml,.int .i64 r.mh,.int .i64 r.t]
def rwk(k:Int)(q:Nat):Rw:=
 match k.toNat with
 |1=>⟨0,200,0,0,0,0,0,0,0⟩
 |2=>⟨0,200,1,200,0,0,0,0,0⟩
 |3=>⟨1,1,1,1,0,0,0,0,0⟩
 |4=>⟨1,1,1,1,0,0,0,0,0⟩
 |5=>⟨2,200,0,0,0,0,1,(q:Int)-1,0⟩
 |6=>⟨1,1,0,0,0,0,0,0,0⟩
 |7=>⟨2,3,0,0,0,0,0,0,0⟩
 |8=>⟨2,2,0,0,0,0,0,0,0⟩
 |9=>⟨3,4,1,1,0,0,0,0,0⟩
 |10=>⟨2,2,1,200,0,0,0,0,0⟩
 |11=>⟨0,0,0,0,0,0,0,0,0⟩
 |12=>⟨0,0,0,0,0,0,0,0,0⟩
 |13=>⟨0,200,0,0,0,0,0,0,0⟩
 |14=>⟨2,2,1,2,0,0,0,0,0⟩
 |15=>⟨1,1,0,0,0,0,0,0,0⟩
 |16=>⟨1,1,0,0,0,0,0,0,0⟩
 |20=>⟨0,0,0,0,0,0,0,0,0⟩
 |21=>⟨0,0,0,0,0,0,0,0,0⟩
 |22=>⟨0,0,0,0,0,0,0,0,0⟩
 |23=>⟨0,0,0,0,0,0,-9223372036854775808,9223372036854775807,0⟩
 |24=>⟨0,0,0,0,0,0,0,0,3⟩
 |25=>⟨0,0,0,0,0,0,0,0,4⟩
 |26=>⟨0,0,0,0,0,0,0,0,1⟩
 |27=>⟨0,0,0,0,0,0,0,0,0⟩
 |28=>⟨2,2,0,0,0,0,0,0,0⟩
 |29=>⟨2,2,0,0,0,0,0,0,0⟩
 |30=>⟨1,1,0,0,19,22,0,0,0⟩
 |31=>⟨2,2,0,0,1,18,0,0,0⟩
 |32=>⟨2,2,0,0,0,0,0,0,0⟩
 |33=>⟨1,1,0,0,0,0,0,0,1⟩
 |34=>⟨1,200,0,0,0,0,0,0,0⟩
 |35=>⟨0,200,0,0,0,0,0,0,0⟩
 |36=>⟨1,1,0,200,0,1,0,0,0⟩
 |37=>⟨1,1,0,0,0,0,0,0,0⟩
 |40=>⟨1,1,0,0,0,0,0,0,0⟩
 |41=>⟨2,2,0,0,0,0,0,0,0⟩
 |42=>⟨1,1,0,0,0,0,0,0,1⟩
 |_=>⟨0,0,0,0,0,0,0,0,0⟩
def Zr(W:World)(b:Nat):Prop:=(W.cell? ⟨b,0,none⟩=some (.int .i64 0)/\W.cell? ⟨b,1,none⟩=some (.int .i64 0)/\W.cell? ⟨b,2,none⟩=some (.int .i64 0)/\W.cell? ⟨b,3,none⟩=some (.int .i64 0)/\W.cell? ⟨b,4,none⟩=some (.int .i64 0)/\W.cell? ⟨b,5,none⟩=some (.int .i64 0)/\W.cell? ⟨b,6,none⟩=some (.int .i64 0)/\W.cell? ⟨b,7,none⟩=some (.int .i64 0)/\W.cell? ⟨b,8,none⟩=some (.int .i64 0))/\(W.frozen? ⟨b,0,none⟩=false/\W.frozen? ⟨b,1,none⟩=false/\W.frozen? ⟨b,2,none⟩=false/\W.frozen? ⟨b,3,none⟩=false/\W.frozen? ⟨b,4,none⟩=false/\W.frozen? ⟨b,5,none⟩=false/\W.frozen? ⟨b,6,none⟩=false/\W.frozen? ⟨b,7,none⟩=false/\W.frozen? ⟨b,8,none⟩=false)
theorem Zr.below(h:Zr W b)(hb:Below W.heap.size W W'):Zr W' b:=by
 obtain⟨⟨c0,c1,c2,c3,c4,c5,c6,c7,c8⟩,⟨z0,z1,z2,z3,z4,z5,z6,z7,z8⟩⟩:=h;have hl:=lt_of_cell c0;have e:∀j,W'.cell? ⟨b,j,none⟩=W.cell? ⟨b,j,none⟩:=λj=>hb.cell (p:=⟨b,j,none⟩) hl;have g:∀j,W'.frozen? ⟨b,j,none⟩=W.frozen? ⟨b,j,none⟩:=λj=>hb.frozen (p:=⟨b,j,none⟩) hl;exact⟨⟨(e 0).trans c0,(e 1).trans c1,(e 2).trans c2,(e 3).trans c3,(e 4).trans c4,(e 5).trans c5,(e 6).trans c6,(e 7).trans c7,(e 8).trans c8⟩,⟨(g 0).trans z0,(g 1).trans z1,(g 2).trans z2,(g 3).trans z3,(g 4).trans z4,(g 5).trans z5,(g 6).trans z6,(g 7).trans z7,(g 8).trans z8⟩⟩
theorem Zr.new(W:World)(t:TypeId):Zr (W.alloc (.cells #[.int .i64 0,.int .i64 0,.int .i64 0,.int .i64 0,.int .i64 0,.int .i64 0,.int .i64 0,.int .i64 0,.int .i64 0] t)) W.heap.size:=by
 have e:∀j,(W.alloc (.cells #[.int .i64 0,.int .i64 0,.int .i64 0,.int .i64 0,.int .i64 0,.int .i64 0,.int .i64 0,.int .i64 0,.int .i64 0] t)).cell? ⟨W.heap.size,j,none⟩=(#[.int .i64 0,.int .i64 0,.int .i64 0,.int .i64 0,.int .i64 0,.int .i64 0,.int .i64 0,.int .i64 0,.int .i64 0]:Array Value)[j]?:=λj=>World.cell?_alloc_at _ _ _ _ rfl;have g:∀j,(W.alloc (.cells #[.int .i64 0,.int .i64 0,.int .i64 0,.int .i64 0,.int .i64 0,.int .i64 0,.int .i64 0,.int .i64 0,.int .i64 0] t)).frozen? ⟨W.heap.size,j,none⟩=false:=λj=>World.frozen?_alloc_at _ _ _ _ rfl;exact⟨⟨e 0,e 1,e 2,e 3,e 4,e 5,e 6,e 7,e 8⟩,⟨g 0,g 1,g 2,g 3,g 4,g 5,g 6,g 7,g 8⟩⟩
theorem Zr.put(h:Zr W b)(x0 x1 x2 x3 x4 x5 x6 x7 x8:Int)(V:World)(hV:V=(((((((((W.setCell ⟨b,0,none⟩ (.int .i64 x0)).setCell ⟨b,1,none⟩ (.int .i64 x1)).setCell ⟨b,2,none⟩ (.int .i64 x2)).setCell ⟨b,3,none⟩ (.int .i64 x3)).setCell ⟨b,4,none⟩ (.int .i64 x4)).setCell ⟨b,5,none⟩ (.int .i64 x5)).setCell ⟨b,6,none⟩ (.int .i64 x6)).setCell ⟨b,7,none⟩ (.int .i64 x7)).setCell ⟨b,8,none⟩ (.int .i64 x8))):V.cell? ⟨b,0,none⟩=some (.int .i64 x0)/\V.cell? ⟨b,1,none⟩=some (.int .i64 x1)/\V.cell? ⟨b,2,none⟩=some (.int .i64 x2)/\V.cell? ⟨b,3,none⟩=some (.int .i64 x3)/\V.cell? ⟨b,4,none⟩=some (.int .i64 x4)/\V.cell? ⟨b,5,none⟩=some (.int .i64 x5)/\V.cell? ⟨b,6,none⟩=some (.int .i64 x6)/\V.cell? ⟨b,7,none⟩=some (.int .i64 x7)/\V.cell? ⟨b,8,none⟩=some (.int .i64 x8):=by
 subst hV;obtain⟨⟨c0,c1,c2,c3,c4,c5,c6,c7,c8⟩,_⟩:=h;refine⟨?_,?_,?_,?_,?_,?_,?_,?_,?_⟩
 all_goals
  repeat rw[set_ne _ _ _ _ _ (by omega)]
  exact set_eq _ _ _ _ _ (by(repeat rw[set_ne _ _ _ _ _ (by omega)]);assumption)
theorem nw9(w:World)(o:Obj)(t:TypeId):∃W2,W2=(w.alloc o).alloc (.cells #[.int .i64 0,.int .i64 0,.int .i64 0,.int .i64 0,.int .i64 0,.int .i64 0,.int .i64 0,.int .i64 0,.int .i64 0] t)/\Hid (Below w.heap.size w W2)/\Hid (Zr W2 (w.heap.size+1)):=
 ⟨_,rfl,show Hid _ from bel2 _ _ _,by show Zr _ _;have:=Zr.new (w.alloc o) t;simpa using this⟩
theorem pt9(h:Below n w W)(b:Nat)(hb:n<=b)(x0 x1 x2 x3 x4 x5 x6 x7 x8:Int):Below n w (((((((((W.setCell ⟨b,0,none⟩ (.int .i64 x0)).setCell ⟨b,1,none⟩ (.int .i64 x1)).setCell ⟨b,2,none⟩ (.int .i64 x2)).setCell ⟨b,3,none⟩ (.int .i64 x3)).setCell ⟨b,4,none⟩ (.int .i64 x4)).setCell ⟨b,5,none⟩ (.int .i64 x5)).setCell ⟨b,6,none⟩ (.int .i64 x6)).setCell ⟨b,7,none⟩ (.int .i64 x7)).setCell ⟨b,8,none⟩ (.int .i64 x8)):=
 (((((((((h.setCell (by show n<=b;exact hb) _).setCell (by show n<=b;exact hb) _).setCell (by show n<=b;exact hb) _).setCell (by show n<=b;exact hb) _).setCell (by show n<=b;exact hb) _).setCell (by show n<=b;exact hb) _).setCell (by show n<=b;exact hb) _).setCell (by show n<=b;exact hb) _).setCell (by show n<=b;exact hb) _)
def txo(nm fl:ByteArray->Prop)(t:Int)(x:ByteArray):Prop:=if t=0 then x=⟨#[]⟩else if t=1 then nm x else if t=3 then fl x else x.size<=4000
theorem txo_0:txo nm fl 0 x=(x=⟨#[]⟩):=by unfold txo;rw[if_pos rfl]
theorem txo_1:txo nm fl 1 x=nm x:=by unfold txo;rw[if_neg (by decide),if_pos rfl]
theorem txo_3:txo nm fl 3 x=fl x:=by unfold txo;rw[if_neg (by decide),if_neg (by decide),if_pos rfl]
theorem txo_4:txo nm fl 4 x=(x.size<=4000):=by unfold txo;rw[if_neg (by decide),if_neg (by decide),if_neg (by decide)]
def alw(nm fl:ByteArray->Prop)(r:Rw)(a:Fv)(p:Nat)(A:Nat->ByteArray)(q:Nat):Prop:=(0<=a.f/\a.f<=a.t/\0<=a.l)/\(r.kl<=(q:Int)/\(q:Int)<=r.kh)/\(r.ol<=a.o/\a.o<=r.oh)/\(r.ml<=a.m/\a.m<=r.mh)/\txo nm fl r.t a.x/\(r.nl<=(p:Int)/\(p:Int)<=r.nh)/\∀j,j<p->nm (A j)
def Ipk(nm fl:ByteArray->Prop)(F:Nat->Gv)(a:Fv)(p:Nat)(A:Nat->ByteArray)(q:Nat)(K:Nat->Int)(i:Int):Prop:=alw nm fl (rwk a.k q) a p A q/\∀j,j<q->0<=K j/\K j<i/\tk (sdk a.k a.m q j) (kdk F K j)
def Npk(nm fl:ByteArray->Prop)(F:Nat->Gv)(a:Fv)(p:Nat)(A:Nat->ByteArray)(q:Nat)(K:Nat->Int)(i:Int):Prop:=0<=a.f/\a.f<=a.t/\0<=a.l/\q<=200/\(∀j,j<q->0<=K j/\K j<i)/\shk nm fl F a p A q K
def kok(k:Int):Prop:=(1<=k/\k<=16)\/(20<=k/\k<=37)\/(40<=k/\k<=42)
