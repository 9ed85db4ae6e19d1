import Derived.Test.YtkhdehngobkkfaaGreatDoorADua
namespace Go.Proofs.YtkhdehngobkkfaaGreatDoor.Fo
open Go.ChangeShapes Go.WideShapes Go.ChangeAt Go.RowKit
set_option linter.unusedVariables false
set_option maxRecDepth 100000
variable {w W V:World}{b t q ck m n cf i cn g j:Nat}{fs:Value}{l A TT T U B C D E:List UInt8}{pk pn:Option Addr}{x:Int}{cd:Addr}{F:Nat->Gv}{G:Gv}{ts:Nat->List UInt8}
theorem alloc_at(w:World)(c:Array Value)(t:TypeId):(w.alloc (.cells c t)).heap[w.heap.size]? =some (.cells c t (0,0)):=by
 show(w.heap.push _)[w.heap.size]? =_;exact Array.getElem?_push_size
theorem add_z(a:Addr):a.add 0=a:=by cases a;rfl
theorem add_add(a:Addr)(m i:Nat):(a.add m).add i=a.add (m+i):=by
 unfold Addr.add;by_cases h1:m=0
 ·subst h1;simp
 by_cases h2:i=0
 ·subst h2;simp
 rw[if_neg h1,if_neg h2,if_neg (by omega)];simp[Nat.add_assoc]
theorem Ws.lt(h:Ws w b fs t l W):b<W.heap.size:=by
 obtain⟨v,h1,_⟩:=h.bx;exact(Array.getElem?_eq_some_iff.1 h1).1
theorem byt_app(a b:ByteArray):byt (a++b)=byt a++byt b:=by simp[byt]
theorem be_drew(W:World):Below W.heap.size W W.drew:=⟨rfl,rfl,rfl,Nat.le_refl _,λ_ _=>rfl⟩
theorem new_cells{wr:World}{c:Array Value}(hV:(wr.alloc (.cells c t)).drew=V):V.heap[wr.heap.size]? =some (.cells c t (0,0)):=by
 rw[<-hV];exact alloc_at wr c t
theorem ok_bel{e:TypeId}{b:Option Nat}(h:Below W.heap.size W V):Lib.OthersKept e b W V:=λk o hk _ _=>(h.block k (Array.getElem?_eq_some_iff.1 hk).1).trans hk
theorem sl_from{A:Nat->Value}(hr:RowV w (.slice pk q ck) q A)(hm:m<=q)(hx:x=(m:Int)):∃pa ca,(∀W,(Instr.sliceAt 42 (.slice pk q ck) (some (.int .i64 x)) none none).run Tryz.prog W=.ok (.slice pa (q-m) ca) W)/\RowV w (.slice pa (q-m) ca) (q-m) (λj=>A (m+j)):=by
 subst hx;have hT:Tryz.prog.underlying 42=some (.slice (Tryz.prog.elem 42)):=by kernel_rfl
 have hs:∀W,(sizeOf (Tryz.prog.elem 42)).run Tryz.prog W=Result.ok 1 W:=λW=>by kernel_rfl
 refine⟨if ck=m then pk else pk.map (·.add (m*1)),ck-m,λW=>?_,_,_,rfl,λh=>?_⟩
 ·rw[run_sliceAt_slice _ _ _ _ _ _ hT,run_slice_l _ _ _ _ _ hT _ _ (by omega) (by omega),hs W];simp[Result.andThen,sliced]
 ·obtain⟨_,_,e,h2⟩:=hr;obtain⟨rfl,-,rfl⟩:=(Value.slice.injEq _ _ _ _ _ _).mp e;obtain⟨ad,e2,hc,hx⟩:=h2 (by omega);refine⟨ad.add m,by rw[if_neg (by omega),e2,Nat.mul_one];rfl,by omega,λi hi=>?_⟩;rw[add_add];exact hx _ (by omega)
theorem sl_to{A:Nat->Value}(hr:RowV w (.slice pk q ck) q A)(hm:m<=q)(h0:0<q)(hx:x=(m:Int)):∃pa ca,(∀W,(Instr.sliceAt 42 (.slice pk q ck) none (some (.int .i64 x)) none).run Tryz.prog W=.ok (.slice pa m ca) W)/\RowV w (.slice pa m ca) m A:=by
 subst hx;have hT:Tryz.prog.underlying 42=some (.slice (Tryz.prog.elem 42)):=by kernel_rfl
 have hs:∀W,(sizeOf (Tryz.prog.elem 42)).run Tryz.prog W=Result.ok 1 W:=λW=>by kernel_rfl
 obtain⟨_,_,e,h2⟩:=hr;obtain⟨rfl,-,rfl⟩:=(Value.slice.injEq _ _ _ _ _ _).mp e;obtain⟨ad,rfl,hc,hx⟩:=h2 h0;refine⟨some ad,ck,λW=>?_,_,_,rfl,λh=>⟨ad,rfl,by omega,λi hi=>hx i (by omega)⟩⟩;rw[run_sliceAt_slice _ _ _ _ _ _ hT,run_slice_h _ _ _ _ _ hT _ _ (by omega) (by omega),hs W];simp[Result.andThen,sliced,Addr.add]
theorem un {p:Prop} (h:Hid p):p:=h
structure Am (w:World) (n cf:Nat) (cd:Addr) (F:Nat->Gv) (i:Nat):Prop where
 hf:RowF w (.slice (some cd) n cf) n F
 hi:i<n
 hn:n<=3000
theorem Am.get(h:Am w n cf cd F i):∃pn cn pk ck,Cel9 w (cd.add (i*9)) (F i).a (.slice pn (F i).p cn) (.slice pk (F i).q ck)/\RowV w (.slice pn (F i).p cn) (F i).p (λj=>.string ((F i).A j))/\RowV w (.slice pk (F i).q ck) (F i).q (λj=>.int .i64 ((F i).K j))/\n<=cf:=by
 have h0:=h.hi;obtain⟨_,_,e1,hf2⟩:=h.hf;obtain⟨rfl,-,rfl⟩:=(Value.slice.injEq _ _ _ _ _ _).mp e1;obtain⟨_,e2,hcc,hrc⟩:=hf2 (by omega);obtain rfl:=Option.some.inj e2;obtain⟨vn,vk,hc9,hrn,hrk⟩:=hrc i h0;obtain⟨pn,cn,rfl,-⟩:=id hrn;obtain⟨pk,ck,rfl,-⟩:=id hrk;exact⟨_,_,_,_,hc9,hrn,hrk,hcc⟩
structure Fw (w:World) (b:Nat) (fs:Value) (t:Nat) (l:List UInt8) (W:World) (g:Nat) (G:Gv) (pn:Option Addr) (cn:Nat) (pk:Option Addr) (ck:Nat) (TT:List UInt8) (T:List UInt8) (wr:World):Prop where
 q:Ws w b fs t (l++T) wr
 o:Lib.OthersKept 5 (some b) W wr
 c:wr.heap[g]? =some (.cells #[.int .i64 G.a.k,.int .i64 G.a.f,.int .i64 G.a.t,.int .i64 G.a.l,.int .i64 G.a.o,.int .i64 G.a.m,.string G.a.x,.slice pn G.p cn,.slice pk G.q ck] 44 (0,0))
 gb:g≠b
 rn:RowV w (.slice pn G.p cn) G.p (λj=>.string (G.A j))
 rk:RowV w (.slice pk G.q ck) G.q (λj=>.int .i64 (G.K j))
 le:l.length+TT.length<=1000000000000
theorem Fw.start(h:Ws w b fs t l W)(hl:l.length+TT.length<=1000000000000)(rn:RowV w (.slice pn G.p cn) G.p (λj=>.string (G.A j)))(rk:RowV w (.slice pk G.q ck) G.q (λj=>.int .i64 (G.K j))):∃V g,W.alloc (.cells #[.int .i64 G.a.k,.int .i64 G.a.f,.int .i64 G.a.t,.int .i64 G.a.l,.int .i64 G.a.o,.int .i64 G.a.m,.string G.a.x,.slice pn G.p cn,.slice pk G.q ck] 44)=V/\W.heap.size=g/\Hid (Fw w b fs t l W g G pn cn pk ck TT [] V):=
 ⟨_,_,rfl,rfl,⟨by rw[List.append_nil];exact h.call (bel1 W _),(Lib.OthersKept.refl _ _ _).alloc _,alloc_at W _ _,Nat.ne_of_gt h.lt,rn,rk,hl⟩⟩
theorem Fw.keep{wr:World}{w':World}(h:Fw w b fs t l W g G pn cn pk ck TT T wr)(h2:Ws w b fs t (l++T++U) w')(o2:Lib.OthersKept 5 (some b) wr w'):Fw w b fs t l W g G pn cn pk ck TT (T++U) w':=
 ⟨by rw[<-List.append_assoc];exact h2,h.o.trans o2,o2 g _ h.c (by simpa using h.gb) (λc fz e=>by injection e with _ e2;revert e2;decide),h.gb,h.rn,h.rk,h.le⟩
theorem Fw.call{wr:World}{w1:World}(h:Hid (Fw w b fs t l W g G pn cn pk ck TT T wr))(hb:Below wr.heap.size wr w1):Hid (Fw w b fs t l W g G pn cn pk ck TT T w1):=by
 have h:=un h;have:=h.keep (U:=[]) (by rw[List.append_nil];exact h.q.call hb) (ok_bel hb);rw[List.append_nil]at this;exact this
theorem Fw.step{wr:World}{f:Nat}{args:Array Value}(h:Hid (Fw w b fs t l W g G pn cn pk ck TT T wr))(H:Cw w b fs t f args U)(p:T++U<+:TT):Calls Tryz.prog f args wr λe w'=>e=.returned (.tuple #[])/\Hid (Fw w b fs t l W g G pn cn pk ck TT (T++U) w'):=by
 refine(H _ wr (un h).q (by have h1:=p.length_le;have h2:=(un h).le;rw[List.length_append]at h1⊢;omega)).mono ?_;rintro e w' ⟨rfl,h2,o2⟩;exact⟨rfl,(un h).keep h2 o2⟩
theorem px0:A<+:A:=List.prefix_refl _
theorem px1:A<+:A++B:=List.prefix_append _ _
theorem px2:A<+:A++B++C:=px1.trans px1
theorem px3:A<+:A++B++C++D:=px2.trans px1
theorem px4:A<+:A++B++C++D++E:=px3.trans px1
theorem px5{X:List UInt8}:A<+:A++B++C++D++E++X:=px4.trans px1
theorem Fw.cs{wr:World}(h:Hid (Fw w b fs t l W g G pn cn pk ck TT T wr)):wr.cell? ⟨g,0,none⟩=some (.int .i64 G.a.k)/\wr.cell? ⟨g,1,none⟩=some (.int .i64 G.a.f)/\wr.cell? ⟨g,2,none⟩=some (.int .i64 G.a.t)/\wr.cell? ⟨g,3,none⟩=some (.int .i64 G.a.l)/\wr.cell? ⟨g,4,none⟩=some (.int .i64 G.a.o)/\wr.cell? ⟨g,5,none⟩=some (.int .i64 G.a.m)/\wr.cell? ⟨g,6,none⟩=some (.string G.a.x)/\wr.cell? ⟨g,7,none⟩=some (.slice pn G.p cn)/\wr.cell? ⟨g,8,none⟩=some (.slice pk G.q ck):=by
 have hc:=(un h).c;exact⟨cell_of hc rfl,cell_of hc rfl,cell_of hc rfl,cell_of hc rfl,cell_of hc rfl,cell_of hc rfl,cell_of hc rfl,cell_of hc rfl,cell_of hc rfl⟩
theorem Fw.done{wr:World}(h:Hid (Fw w b fs t l W g G pn cn pk ck TT T wr))(e:T=U):Ws w b fs t (l++U) wr/\Lib.OthersKept 5 (some b) W wr:=⟨by rw[<-e];exact(un h).q,(un h).o⟩
theorem Fw.kid{wr:World}(h:Hid (Fw w b fs t l W g G pn cn pk ck TT T wr))(hj:j<G.q):∃ad,pk=some ad/\G.q<=ck/\wr.cell? (ad.add j)=some (.int .i64 (G.K j)):=by
 obtain⟨_,_,e,h2⟩:=(un h).rk;obtain⟨rfl,-,rfl⟩:=(Value.slice.injEq _ _ _ _ _ _).mp e;obtain⟨ad,e2,hc,hx⟩:=h2 (by omega);exact⟨ad,e2,hc,((un h).q.bel.cell (lt_of_cell' (hx j hj))).trans (hx j hj)⟩
theorem Fw.nam{wr:World}(h:Hid (Fw w b fs t l W g G pn cn pk ck TT T wr))(hj:j<G.p):∃ad,pn=some ad/\G.p<=cn/\wr.cell? (ad.add j)=some (.string (G.A j)):=by
 obtain⟨_,_,e,h2⟩:=(un h).rn;obtain⟨rfl,-,rfl⟩:=(Value.slice.injEq _ _ _ _ _ _).mp e;obtain⟨ad,e2,hc,hx⟩:=h2 (by omega);exact⟨ad,e2,hc,((un h).q.bel.cell (lt_of_cell' (hx j hj))).trans (hx j hj)⟩
def W1(w:World)(b:Nat)(cd:Addr)(n cf t f:Nat)(a:Value)(T:List UInt8):Prop:=Cw w b (.slice (some cd) n cf) t f #[.pointer (some ⟨b,0,none⟩),a] T
def W2(w:World)(b:Nat)(cd:Addr)(n cf t f:Nat)(a a2:Value)(T:List UInt8):Prop:=Cw w b (.slice (some cd) n cf) t f #[.pointer (some ⟨b,0,none⟩),a,a2] T
def WL(w:World)(b:Nat)(cd:Addr)(n cf t:Nat)(K:Nat->Int)(p:Nat)(ts:Nat->List UInt8):Prop:=p<=1048576/\∀j,j<p->W2 w b cd n cf t 25 (.int .i64 (K j)) (.int .i64 0) (ts j)
theorem Fw.open(h:Ws w b (.slice (some cd) n cf) t l W)(hl:l.length+TT.length<=1000000000000)(A:Am w n cf cd F i):∃pn cn pk ck V g,W.alloc (.cells #[.int .i64 (F i).a.k,.int .i64 (F i).a.f,.int .i64 (F i).a.t,.int .i64 (F i).a.l,.int .i64 (F i).a.o,.int .i64 (F i).a.m,.string (F i).a.x,.slice pn (F i).p cn,.slice pk (F i).q ck] 44)=V/\W.heap.size=g/\Hid (Fw w b (.slice (some cd) n cf) t l W g (F i) pn cn pk ck TT [] V)/\W.cell? ⟨b,0,none⟩=some (.slice (some cd) n cf)/\Cel9 W (cd.add (i*9)) (F i).a (.slice pn (F i).p cn) (.slice pk (F i).q ck)/\(i:Int)<(n:Int)/\(n:Int)<=3000:=by
 obtain⟨pn,cn,pk,ck,h9,rn,rk,-⟩:=A.get;obtain⟨V,g,h1,h2,h3⟩:=Fw.start h hl rn rk;have:=A.hi;have:=A.hn;exact⟨pn,cn,pk,ck,V,g,h1,h2,h3,h.frm,h9.below h.bel,by omega,by omega⟩
theorem Fw.say{wr:World}(h:Hid (Fw w b fs t l W g G pn cn pk ck TT T wr))(s:ByteArray)(p:T++byt s<+:TT):Calls Tryz.prog 12 #[.pointer (some ⟨b,0,none⟩),.string s] wr λe w'=>e=.returned (.tuple #[])/\Hid (Fw w b fs t l W g G pn cn pk ck TT (T++byt s) w'):=Fw.step h (sp_say w b fs t s) p
theorem Fw.nms {w W wr:World} {b t g cn ck:Nat} {fs:Value} {pn pk:Option Addr} {l T TT:List UInt8} {G:Gv} (h:Hid (Fw w b fs t l W g G pn cn pk ck TT T wr)) (hp:G.p<=1048576) (p:T++nms G<+:TT):Calls Tryz.prog 23 #[.pointer (some ⟨b,0,none⟩),.slice pn G.p cn] wr λe w'=>e=.returned (.tuple #[])/\Hid (Fw w b fs t l W g G pn cn pk ck TT (T++nms G) w'):=Fw.step h (sw_names w b fs t (un h).rn hp rfl) p
theorem WL.go{p:Nat}{K:Nat->Int}(h:WL w b cd n cf t K p ts){v:Value}(hr:RowV w v p (λi=>.int .i64 (K i))):Cw w b (.slice (some cd) n cf) t 24 #[.pointer (some ⟨b,0,none⟩),v] (cmj ts p):=sw_exprs w b (.slice (some cd) n cf) t hr h.1 h.2
theorem Fw.xs{wr:World}(h:Hid (Fw w b (.slice (some cd) n cf) t l W g G pn cn pk ck TT T wr))(H:Hid (WL w b cd n cf t G.K G.q ts))(p:T++cmj ts G.q<+:TT):Calls Tryz.prog 24 #[.pointer (some ⟨b,0,none⟩),.slice pk G.q ck] wr λe w'=>e=.returned (.tuple #[])/\Hid (Fw w b (.slice (some cd) n cf) t l W g G pn cn pk ck TT (T++cmj ts G.q) w'):=Fw.step h ((un H).go (un h).rk) p
theorem cat3{x:ByteArray}(hx:x.size<=4000)(a c:Nat)(ha:a<=100)(hc:c<=100):¬9223372036854775807<a+x.size/\¬9223372036854775807<a+x.size+c:=by omega
