import Derived.Test.YtohbcpfjjimdnaaGreatDoorMChd
import Derived.WalkSpells
set_option maxHeartbeats 16000000
namespace Go.Proofs.YtohbcpfjjimdnaaGreatDoor.Fo
open Go.ChangeShapes Go.WideShapes Go.ChangeAt Go.RowKit
set_option linter.unusedVariables false
set_option maxRecDepth 100000
variable {L:List Int}{x:Int}{S o:Nat}{v:Value}
theorem qr_cells(w:World)(c:Array Value)(t:TypeId)(l:List Value)(hl:c.toList=l):∀j u,l[j]? =some u->(w.alloc (.cells c t)).cell? ((⟨w.heap.size,0,none⟩:Addr).add j)=some u:=by
 intro j u hj;subst hl;rw[addr0,World.cell?_alloc_mark]
 simpa using hj
noncomputable def addL(L:List Int)(x:Int):List Int:=if dc (x ∈ L)=true then L else L++[x]
theorem addL_t(h:x ∈ L):addL L x=L:=by unfold addL;rw[dc_t h,if_pos rfl]
theorem addL_f(h:x ∉ L):addL L x=L++[x]:=by unfold addL;rw[dc_f h,if_neg (by simp)]
theorem mem_addL{y:Int}:y ∈ addL L x↔y ∈ L\/y=x:=by
 by_cases h:x ∈ L
 ·rw[addL_t h];constructor
  ·exact .inl
  ·rintro(h|rfl)
   ·exact h
   ·exact h
 ·rw[addL_f h];simp
theorem Zt.make{w:World}(h:Zt S o L v (.map none) w)(hL:L=[]):Zt S o L v (.map (some w.heap.size)) ((w.alloc (.map #[] 0)).setCell ⟨S,o+1,none⟩ (.map (some w.heap.size)))/\Ks S o v (.map none) v (.map (some w.heap.size)) w ((w.alloc (.map #[] 0)).setCell ⟨S,o+1,none⟩ (.map (some w.heap.size))):=by
 subst hL;have hk:=kb_alloc 0 w (.map #[] 0);have hSl:S<w.heap.size:=lt_of_cell' h.c0;have hS1:(w.alloc (.map #[] 0)).heap[S]? =w.heap[S]?:=hk.block S zq hSl;have hse:∀k,k≠S->((w.alloc (.map #[] 0)).setCell ⟨S,o+1,none⟩ (.map (some w.heap.size))).heap[k]? =(w.alloc (.map #[] 0)).heap[k]?:=λk hne=>Below.heap_setCell _ _ _ _ hne;have c0:(w.alloc (.map #[] 0)).cell? ⟨S,o,none⟩=some v:=hk.cell h.c0;have c1:(w.alloc (.map #[] 0)).cell? ⟨S,o+1,none⟩=some (.map none):=hk.cell h.c1;refine⟨⟨(set_ne _ _ _ _ _ (by omega)).trans c0,set_eq _ _ _ _ _ c1,λj=>(set_fz _ _ _ _ _).trans ((World.frozen?_of_block hS1).trans (h.fz j)),rowBlk h.row (λg e=>?_),.inr ⟨_,rfl,(Mi.new w).on (hse _ (by omega))⟩,h.ne⟩,⟨rfl,rfl,by rw[World.size_setCell,World.size_alloc];omega,λk hk2 h1 h2 h3=>(hse k h1).trans (hk.block k zq hk2),λj h1 h2=>(set_ne _ _ _ _ _ h2).trans (World.cell?_of_block hS1),λk hk2=>.inl hk2,λk hk2=>.inr ?_⟩⟩
 ·exact(hse g (λe2=>h.ne (by rw[e,e2]))).trans (hk.block g zq (h.row.lt g e).2)
 ·have:w.heap.size=k:=by simpa using hk2
  omega
theorem im_add{m:Value}(x:Int)(w:World)(h:Zt S o L v m w)(hlen:L.length<=10000000000):Calls Tryz.prog 110 #[.pointer (some ⟨S,o,none⟩),.int .i64 x] w λe w'=>∃p:Int,e=.returned (.tuple #[.int .i64 p,.bool (dc (x ∉ L))])/\∃v' m',Zt S o (addL L x) v' m' w'/\Ks S o v m v' m' w w':=by
 obtain⟨i0,hi0,hz0,hz1,hz2⟩:=info_parts infoI;have HI0:Hid (Tryz.prog.info? 3=some i0):=hi0;clear hi0;have qT:∀(w:World) (r:Option Nat),(binOp .eql 122 (.map r) (.map none)).run Tryz.prog w=.ok (.bool r.isNone) w:=λw r=>run_eql_map_nil w 122 3 3 r tMI;by_cases hx:x ∈ L
 ·have c1:=h.c1;rw[addL_t hx,dc_f (λg=>g hx)]
  obtain⟨M,rfl,hM⟩:∃M,m=.map (some M)/\Mi w M L:=by
   rcases h.mp with⟨rfl,_⟩|q
   ·cases hx
   ·exact q
  obtain⟨p,hl⟩:=run_lookI hM x;rw[dc_t hx]at hl;have HZ:Hid (Zt S o L v (.map (some M)) w):=h;clear h hM hx hlen HI0;go_enter Tryz.func110,Tryz.ntmps110;go_wp2_with fail;refine bodyPost_ret (by simp[results,Tryz.results110,go_sem];rfl) rfl ?_;exact⟨p,rfl,v,_,HZ,Ks.refl _ _ _ _ _⟩
 ·rw[addL_f hx,dc_t hx];rcases h.mp with⟨hL,rfl⟩|⟨M,rfl,hM⟩
  ·have hl:=run_lookN w x;have hmk:=run_makeI w;have c1:=h.c1;have hmz:=h.make hL;obtain⟨W1,hW1⟩:∃W1,W1=(w.alloc (.map #[] 0)).setCell ⟨S,o+1,none⟩ (.map (some w.heap.size)):=⟨_,rfl⟩
   have c1a:(w.alloc (.map #[] 0)).cell? ⟨S,o+1,none⟩=some (.map none):=(kb_alloc 0 w _).cell c1;have f1a:(w.alloc (.map #[] 0)).frozen? ⟨S,o+1,none⟩=false:=((kb_alloc 0 w (.map #[] 0)).frozen zq (lt_of_cell' h.c0)).trans (h.fz _);have HZ:Hid (Zt S o L v (.map (some w.heap.size)) W1):=by rw[hW1];exact hmz.1
   have HK:Hid (Ks S o v (.map none) v (.map (some w.heap.size)) w W1):=by rw[hW1];exact hmz.2
   have HW1:Hid (W1=(w.alloc (.map #[] 0)).setCell ⟨S,o+1,none⟩ (.map (some w.heap.size))):=hW1;obtain⟨M,hMe⟩:∃M,M=w.heap.size:=⟨_,rfl⟩
   rw[<-hMe]at hmk HZ HK HW1;clear h hmz hW1 hL hMe;go_enter Tryz.func110,Tryz.ntmps110;go_upto_region 6 with fail;rw[<-(uh HW1)];clear HW1 hl hmk c1 c1a f1a;have z0:=(uh HZ).c0;have z1:=(uh HZ).c1
   obtain⟨ob,hup,hM2⟩:=run_updI (w:=W1) (M:=M) (L:=L) (by
    rcases(uh HZ).mp with⟨_,q⟩|⟨M',e,hM'⟩
    ·cases q
    ·have e2:M=M':=by simpa using e
     rw[e2];exact hM') x (L.length:Int) hx
   have HMS:Hid (M≠S):=map_cells (W:=setB W1 M ob) (L:=L++[x]) hM2 (v:=v) (j:=o) (by
    have:=(uh HZ)
    rcases this.mp with⟨_,q⟩|⟨M',e,hM'⟩
    ·cases q
    ·have e2:M=M':=by simpa using e
     exact(World.cell?_of_block (setB_ne _ _ _ _ (λe3=>map_cells hM' z0 (by rw[<-e2,<-e3])))).trans z0)
   have y0:(setB W1 M ob).cell? ⟨S,o,none⟩=some v:=(World.cell?_of_block (setB_ne _ _ _ _ (λe3=>(uh HMS) e3.symm))).trans z0
   have HADD:Hid (∀(E:Obj) (g cap':Nat) (w7:World),w7.ownsRow 0 3 1 (.slice (some ⟨g,0,none⟩) (L.length+1) cap') (L.length+1) (iv L++[.int .i64 x])->((setB W1 M ob).alloc E).grownBy w7 v.ownBlock->(v.ownBlock=some g\/g=W1.heap.size+1)->w7.cell? ⟨S,o,none⟩=some v/\w7.frozen? ⟨S,o,none⟩=false/\Zt S o (L++[x]) (.slice (some ⟨g,0,none⟩) (L.length+1) cap') (.map (some M)) (w7.setCell ⟨S,o,none⟩ (.slice (some ⟨g,0,none⟩) (L.length+1) cap'))/\Ks S o v (.map (some M)) (.slice (some ⟨g,0,none⟩) (L.length+1) cap') (.map (some M)) W1 (w7.setCell ⟨S,o,none⟩ (.slice (some ⟨g,0,none⟩) (L.length+1) cap'))):=(λE g cap' w7 a b c=>(uh HZ).add hM2 a b (λg' e=>by
    have e4:g=g':=by simpa [Value.ownBlock]using e
    subst e4;exact c):∀(E:Obj),_)
   have hsB:(setB W1 M ob).heap.size=W1.heap.size:=by unfold setB;simp
   have howna:∀a:Obj,((setB W1 M ob).alloc a).ownsRow 0 3 1 v L.length (iv L):=λa=>by
    have hz:=(uh HZ)
    refine(rowBlk hz.row (λg e=>setB_ne _ _ _ _ ?_)).alloc a;rcases hz.mp with⟨_,q⟩|⟨M',e1,hM'⟩
    ·cases q
    ·have e2:M=M':=by simpa using e1
     exact λe3=>map_row hM' hz.row e (by rw[<-e2,e3])
   obtain⟨ad,cap,hvs⟩:=(uh HZ).shape
   have hqc:∀(j:Nat) (u:Value),([.int .i64 x]:List Value)[j]? =some u->((setB W1 M ob).alloc (.cells #[.int .i64 x] 3)).cell? ((⟨W1.heap.size,0,none⟩:Addr).add j)=some u:=by
    have:=qr_cells (setB W1 M ob) #[.int .i64 x] 3 [.int .i64 x] rfl;rw[hsB]at this;exact this
   have h1c:∀u ∈ ([.int .i64 x]:List Value),u.oneCell'=true:=by intro u hu;simp at hu;subst hu;rfl
   have HLN:Hid (L.length<=10000000000):=hlen;have hlI:(L.length:Int)<=10000000000:=by omega
   subst hvs;clear hM2 HZ HMS hx hlen;generalize hn:L.length=n at*;go_wp2_with (at_builtin;refine wpList_append_lies _ rfl (.tmp 43) (.tmp 45) 53 rfl 0 3 i0 (.int .i64 0) 1 8 Tryz.underlying53 HI0 hz0 hz1 hz2 rfl (by decide) _ _ _ rfl (howna _) ⟨W1.heap.size,0,none⟩ 1 1 [.int .i64 x] rfl rfl hqc h1c (by decide) (by unfold maxLen;omega) (by omega) (by simp) (W1.heap.size+1) (by rw[World.size_alloc,hsB]) ?_;intro g cap' w7 hown1 hgrow1 hl1 _;obtain⟨s0,s1,s2,s3⟩:=(uh HADD) _ _ _ _ hown1 hgrow1 hl1;have HFIN:Hid (Zt S o (L++[x]) (.slice (some ⟨g,0,none⟩) (n+1) cap') (.map (some M)) (w7.setCell ⟨S,o,none⟩ (.slice (some ⟨g,0,none⟩) (n+1) cap'))/\Ks S o (.slice ad n cap) (.map (some M)) (.slice (some ⟨g,0,none⟩) (n+1) cap') (.map (some M)) W1 (w7.setCell ⟨S,o,none⟩ (.slice (some ⟨g,0,none⟩) (n+1) cap'))):=(⟨s2,s3⟩:_/\_);clear s2 s3 hown1 hgrow1 hl1 HADD howna hqc h1c);refine bodyPost_ret (by simp[results,Tryz.results110,go_sem];rfl) rfl ?_;exact⟨_,rfl,_,_,HFIN.1,(by rw[hn];exact(show Ks S o _ (.map none) _ (.map (some M)) w W1 from(hn▸HK)).trans HFIN.2)⟩
  ·obtain⟨p,hl⟩:=run_lookI hM x;rw[dc_f hx]at hl;have c1:=h.c1;have HZ:Hid (Zt S o L v (.map (some M)) w):=h;clear h hM;go_enter Tryz.func110,Tryz.ntmps110;go_upto_region 6 with fail;clear hl c1;have z0:=(uh HZ).c0;have z1:=(uh HZ).c1
   obtain⟨ob,hup,hM2⟩:=run_updI (w:=w) (M:=M) (L:=L) (by
    rcases(uh HZ).mp with⟨_,q⟩|⟨M',e,hM'⟩
    ·cases q
    ·have e2:M=M':=by simpa using e
     rw[e2];exact hM') x (L.length:Int) hx
   have HMS:Hid (M≠S):=map_cells (W:=setB w M ob) (L:=L++[x]) hM2 (v:=v) (j:=o) (by
    have:=(uh HZ)
    rcases this.mp with⟨_,q⟩|⟨M',e,hM'⟩
    ·cases q
    ·have e2:M=M':=by simpa using e
     exact(World.cell?_of_block (setB_ne _ _ _ _ (λe3=>map_cells hM' z0 (by rw[<-e2,<-e3])))).trans z0)
   have y0:(setB w M ob).cell? ⟨S,o,none⟩=some v:=(World.cell?_of_block (setB_ne _ _ _ _ (λe3=>(uh HMS) e3.symm))).trans z0
   have HADD:Hid (∀(E:Obj) (g cap':Nat) (w7:World),w7.ownsRow 0 3 1 (.slice (some ⟨g,0,none⟩) (L.length+1) cap') (L.length+1) (iv L++[.int .i64 x])->((setB w M ob).alloc E).grownBy w7 v.ownBlock->(v.ownBlock=some g\/g=w.heap.size+1)->w7.cell? ⟨S,o,none⟩=some v/\w7.frozen? ⟨S,o,none⟩=false/\Zt S o (L++[x]) (.slice (some ⟨g,0,none⟩) (L.length+1) cap') (.map (some M)) (w7.setCell ⟨S,o,none⟩ (.slice (some ⟨g,0,none⟩) (L.length+1) cap'))/\Ks S o v (.map (some M)) (.slice (some ⟨g,0,none⟩) (L.length+1) cap') (.map (some M)) w (w7.setCell ⟨S,o,none⟩ (.slice (some ⟨g,0,none⟩) (L.length+1) cap'))):=(λE g cap' w7 a b c=>(uh HZ).add hM2 a b (λg' e=>by
    have e4:g=g':=by simpa [Value.ownBlock]using e
    subst e4;exact c):∀(E:Obj),_)
   have hsB:(setB w M ob).heap.size=w.heap.size:=by unfold setB;simp
   have howna:∀a:Obj,((setB w M ob).alloc a).ownsRow 0 3 1 v L.length (iv L):=λa=>by
    have hz:=(uh HZ)
    refine(rowBlk hz.row (λg e=>setB_ne _ _ _ _ ?_)).alloc a;rcases hz.mp with⟨_,q⟩|⟨M',e1,hM'⟩
    ·cases q
    ·have e2:M=M':=by simpa using e1
     exact λe3=>map_row hM' hz.row e (by rw[<-e2,e3])
   obtain⟨ad,cap,hvs⟩:=(uh HZ).shape
   have hqc:∀(j:Nat) (u:Value),([.int .i64 x]:List Value)[j]? =some u->((setB w M ob).alloc (.cells #[.int .i64 x] 3)).cell? ((⟨w.heap.size,0,none⟩:Addr).add j)=some u:=by
    have:=qr_cells (setB w M ob) #[.int .i64 x] 3 [.int .i64 x] rfl;rw[hsB]at this;exact this
   have h1c:∀u ∈ ([.int .i64 x]:List Value),u.oneCell'=true:=by intro u hu;simp at hu;subst hu;rfl
   have HLN:Hid (L.length<=10000000000):=hlen;have hlI:(L.length:Int)<=10000000000:=by omega
   subst hvs;clear hM2 HZ HMS hx hlen;generalize hn:L.length=n at*;go_wp2_with (at_builtin;refine wpList_append_lies _ rfl (.tmp 43) (.tmp 45) 53 rfl 0 3 i0 (.int .i64 0) 1 8 Tryz.underlying53 HI0 hz0 hz1 hz2 rfl (by decide) _ _ _ rfl (howna _) ⟨w.heap.size,0,none⟩ 1 1 [.int .i64 x] rfl rfl hqc h1c (by decide) (by unfold maxLen;omega) (by omega) (by simp) (w.heap.size+1) (by rw[World.size_alloc,hsB]) ?_;intro g cap' w7 hown1 hgrow1 hl1 _;obtain⟨s0,s1,s2,s3⟩:=(uh HADD) _ _ _ _ hown1 hgrow1 hl1;have HFIN:Hid (Zt S o (L++[x]) (.slice (some ⟨g,0,none⟩) (n+1) cap') (.map (some M)) (w7.setCell ⟨S,o,none⟩ (.slice (some ⟨g,0,none⟩) (n+1) cap'))/\Ks S o (.slice ad n cap) (.map (some M)) (.slice (some ⟨g,0,none⟩) (n+1) cap') (.map (some M)) w (w7.setCell ⟨S,o,none⟩ (.slice (some ⟨g,0,none⟩) (n+1) cap'))):=(⟨s2,s3⟩:_/\_);clear s2 s3 hown1 hgrow1 hl1 HADD howna hqc h1c);refine bodyPost_ret (by simp[results,Tryz.results110,go_sem];rfl) rfl ?_;exact⟨_,rfl,_,_,HFIN.1,(by rw[hn];exact HFIN.2)⟩
