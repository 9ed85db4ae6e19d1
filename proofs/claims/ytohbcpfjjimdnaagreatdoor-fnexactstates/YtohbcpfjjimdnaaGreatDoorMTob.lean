import Derived.Test.YtohbcpfjjimdnaaGreatDoorMTog
import Derived.Deep.RegionLaw
import Derived.Shelf.Abstract
set_option maxHeartbeats 32000000
namespace Go.Proofs.YtohbcpfjjimdnaaGreatDoor.Fo
open Go.ChangeShapes Go.WideShapes Go.ChangeAt Go.RowKit
set_option linter.unusedVariables false
set_option maxRecDepth 100000
variable {q C base k:Nat}{w w':World}{a:Iv}{vt vg v8 v9 va:Value}{T:List Int}{av:Nat->Prop}{G:List Gv}
def tt(n:Nat):Nat:=if n=19\/n=31 then 0 else if n=20\/n=21\/n=38\/n=39\/n=41 then 1 else 4
theorem tt_tab:∀n,n<43->∀j,j<4->(pr n j=6↔tt n=j):=by decide
def tgi(a:Iv):Int:=match tgt a with|some t=>t|none=>-1
theorem tgt_tt(a:Iv)(n:Nat)(h:a.o=(n:Int)):tgi a=if tt n=0 then a.a else if tt n=1 then a.b else-1:=by
 unfold tgi tgt tt;by_cases h1:n=19\/n=31
 ·rw[if_pos h1,if_pos rfl,if_pos (by omega)]
 ·rw[if_neg h1,if_neg (show ¬(a.o=19\/a.o=31) by omega)];by_cases h2:n=20\/n=21\/n=38\/n=39\/n=41
  ·rw[if_pos h2,if_pos (show a.o=20\/a.o=21\/a.o=38\/a.o=39\/a.o=41 by omega)];rfl
  ·rw[if_neg h2,if_neg (show ¬(a.o=20\/a.o=21\/a.o=38\/a.o=39\/a.o=41) by omega)];rfl
theorem im_target(a:Iv)(w:World)(hgd:Gd w)(h1:1<=a.o)(h42:a.o<=42):Calls Tryz.prog 88 #[.agg #[.int .i64 a.o,.int .i64 a.a,.int .i64 a.b,.int .i64 a.c,.int .i64 a.d]] w λe w'=>e=.returned (.int .i64 (tgi a))/\Kb 0 w w':=by
  obtain⟨n,hn⟩:∃n:Nat,a.o=(n:Int):=⟨a.o.toNat,by omega⟩
  have n42:n<43:=by omega
  have htg:=tgt_tt a n hn;have HF:=λW=>im_fieldsof a W;unfold insv at HF;obtain⟨w2,hw2⟩:∃w2,w2=w.alloc (.cells #[.int .i64 a.o,.int .i64 a.a,.int .i64 a.b,.int .i64 a.c,.int .i64 a.d] 79):=⟨_,rfl⟩
  have k2:Kb 0 w w2:=by rw[hw2];exact kb_alloc _ _ _
  have hb2:w2.heap[w.heap.size]? =some (.cells #[.int .i64 a.o,.int .i64 a.a,.int .i64 a.b,.int .i64 a.c,.int .i64 a.d] 79 (0,0)):=by rw[hw2];exact alloc_new _ _ _
  have y0:w2.cell? ⟨w.heap.size,0,none⟩=some (.int .i64 a.o):=cell_of hb2 rfl;have y1:w2.cell? ⟨w.heap.size,1,none⟩=some (.int .i64 a.a):=cell_of hb2 rfl;have y2:w2.cell? ⟨w.heap.size,2,none⟩=some (.int .i64 a.b):=cell_of hb2 rfl;have y3:w2.cell? ⟨w.heap.size,3,none⟩=some (.int .i64 a.c):=cell_of hb2 rfl;have y4:w2.cell? ⟨w.heap.size,4,none⟩=some (.int .i64 a.d):=cell_of hb2 rfl;have HW:Hid (w2=_):=hw2;obtain⟨R,hR⟩:∃R,R=tgi a:=⟨_,rfl⟩
  rw[<-hR];have HR:Hid (R=(if tt n=0 then a.a else if tt n=1 then a.b else-1)/\n<43/\a.o=(n:Int)):=(⟨by rw[hR];exact htg,n42,hn⟩:_/\_)
  have HG:Hid (Gd w/\Kb 0 w w2):=(⟨hgd,k2⟩:_/\_)
  clear hw2 k2 hb2 hR htg hgd n42 hn;go_enter Tryz.func88,Tryz.ntmps88;go_wp2_with fail;rw[<-(uh HW)];clear HW;refine(HF w2).mono ?_;rintro e w3 ⟨rfl,k3⟩;have y0':=k3.cell y0;have HS:Hid (Kb 0 w w3/\Gd w3):=(⟨(uh HG).2.trans k3,(uh HG).1.keep ((uh HG).2.trans k3)⟩:_/\_)
  clear k3 y0 y1 y2 y3 y4 HF HG;have hix0:=ix_0 a.a a.b a.c a.d;have hix1:=ix_1 a.a a.b a.c a.d;have hix2:=ix_2 a.a a.b a.c a.d;have hix3:=ix_3 a.a a.b a.c a.d;go_wp2_with fail
  go_loopw [7] (λsl wr=>∃j:Nat,sl=.int .i64 j/\j<=4/\wr=w3/\Hid (∀y,y<j->tt n≠y)) (λsl _=>4-(intOf sl).toNat)
  case atStart=>exact⟨0,rfl,Nat.zero_le _,rfl,(λy hy=>by omega:∀y,_)⟩
  case round=>
    obtain⟨j,rfl,hj,rfl,HX⟩:=hrel
    rename World=>w3
    obtain⟨hR,n42,hn⟩:=(uh HR)
    obtain⟨k03,hgd⟩:=(uh HS)
    rcases Nat.lt_or_ge j 4 with h|h
    · have hg:=hgd n n42 j h;have htt:=tt_tab n n42 j h;have hX:=(uh HX)
      rw[hn]at y0';have nI:(n:Int)<43:=by omega
      have HK:Hid (Kb 0 w w3):=k03;by_cases c:pr n j=6
      · have ht:=htt.1 c;rw[c,show((6:Nat):Int)=6 from rfl]at hg
        have hRj:R=fld a j:=by
          rw[hR];rcases(by omega:j=0\/j=1\/j=2\/j=3)with rfl|rfl|rfl|rfl
          · rw[if_pos ht];rfl
          · rw[if_neg (by omega),if_pos ht];rfl
          · exfalso;unfold tt at ht;split at ht;· omega
            split at ht<;>omega
          · exfalso;unfold tt at ht;split at ht;· omega
            split at ht<;>omega
        subst hRj;clear hR htt hX k03 hgd HR HS HX ht c hn hj;rcases(by omega:j=0\/j=1\/j=2\/j=3)with rfl|rfl|rfl|rfl
        all_goals
          clear h
          first|(replace hg:w3.cell? ⟨0,n*4,none⟩=some (.int .u8 6):=hg)|skip
          go_wp2_with fail;go_ret;exact⟨rfl,HK⟩
      · have HN : Hid (∀ y, y < j + 1 → tt n ≠ y) := (fun y hy => by
          by_cases e:y=j
          · subst e;exact λq=>c (htt.2 q)
          · exact hX y (by omega):∀y,_)
        have gp:=bne (show((pr n j:Nat):Int)≠6 by omega);clear hR htt hX k03 hgd HX c hn hj;rcases(by omega:j=0\/j=1\/j=2\/j=3)with rfl|rfl|rfl|rfl
        all_goals
          clear h
          first|(replace hg:w3.cell? ⟨0,n*4,none⟩=some (.int .u8 (pr n 0:Int)):=hg)|skip
          generalize pr n _=rj at*;go_wp2_with fail;go_roundw
          case rel=>exact⟨_+1,by go_num,by omega,by simp,HN⟩
          case measure=>simp[intOf]
    · have jI:¬(j:Int)<4:=by omega
      have hX:=(uh HX)
      have hRn:R=-1:=by rw[hR,if_neg (hX 0 (by omega)),if_neg (hX 1 (by omega))]
      subst hRn;have HK:Hid (Kb 0 w w3):=k03;clear hR hX k03 hgd HR HS HX hn hj h;go_wp2_with fail;go_ret;exact⟨rfl,HK⟩
theorem Gd.kx(h:Gd w)(k:Kx q w w')(hq:q≠0):Gd w':=λo ho j hj=>k.cellA (by exact λe=>hq e.symm) (h o ho j hj)
theorem ChB.kx(h:ChB C a vt vg v8 v9 w)(k:Kx q w w')(hq:q≠C):ChB C a vt vg v8 v9 w':=(k.block C (Array.getElem?_eq_some_iff.1 h).1 (λe=>hq e.symm)).trans h
def PuA(a:Iv)(T:List Int)(base q C:Nat)(vt vg v8 v9:Value)(w:World)(e:Ending)(w':World):Prop:=e=.returned (.tuple #[])/\OwI base w' v8 (put a T)/\ChB C a vt vg v8 v9 w'/\Kv v8 q w w'
def PuI(a:Iv)(T:List Int)(base q C:Nat)(vt vg v8 v9:Value)(w:World)(j:Nat)(wr:World):Prop:=OwI base wr v8 (putn a T j)/\ChB C a vt vg v8 v9 wr/\Kv v8 q w wr/\Gd wr
theorem putn_len (a:Iv) (T:List Int):∀j,(putn a T j).length=T.length
 |0=>rfl
 |j+1=>by show(put1 _ _ (putn a T j)).length=_;rw[put1_len,putn_len a T j]
theorem PuI.set{j:Nat}{wr:World}(h:PuI a T base q C vt vg v8 v9 w j wr)(hqq:∀g,v8.ownBlock=some g->g=q)(hqC:q≠C)(hqG:q≠0)(hk:k<T.length):∃(b:Addr) (cap:Nat) (y:Int),v8=.slice (some b) T.length cap/\T.length<=cap/\wr.cell? (b.add k)=some (.int .i64 y)/\wr.frozen? (b.add k)=false/\∀x,putn a T (j+1)=(putn a T j).set k x->PuI a T base q C vt vg v8 v9 w (j+1) (wr.setCell (b.add k) (.int .i64 x)):=by
 obtain⟨h1,h2,h3,h4⟩:=h;obtain⟨b,q',cap,y,e1,e2,e3,e4,e5,e6,e7,e8⟩:=own_wr h1 (k:=k) (by rw[putn_len];exact hk);have hq:=hqq q' e5;subst hq;rw[putn_len]at e1 e3;refine⟨b,cap,y,e1,e3,e6,e7 k,λx hx=>?_⟩;obtain⟨s1,s2⟩:=e8 wr (Kb.refl _ _) x;exact⟨by rw[hx];exact s1,h2.kx s2 hqC,⟨h3.1.trans s2,λe=>by rw[e5]at e;cases e⟩,h4.kx s2 hqG⟩
theorem im_put{np:Nat}{d:Pd}(w:World)(hC:ChB C a vt vg v8 v9 w)(hgd:Gd w)(hO:OwI base w v8 T)(hqq:∀g,v8.ownBlock=some g->g=q)(hqC:q≠C)(hqG:q≠0)(ht:Tok np d a)(hl:(T.length:Int)=d.g)(hgb:d.g<=250):
  Calls Tryz.prog 83 #[.pointer (some ⟨C,0,none⟩)] w (PuA a T base q C vt vg v8 v9 w):=by
 obtain⟨n,hn⟩:∃n:Nat,a.o=(n:Int):=⟨a.o.toNat,by have:=ht.1;omega⟩
 have n42:n<43:=by have:=ht.2.1;omega
 have HF:=λW=>im_fieldsof a W;unfold insv at HF;have hC':w.heap[C]? =_:=hC;have c0:w.cell? ⟨C,0,none⟩=some (.int .i64 a.o):=cell_of hC' rfl;have c1:w.cell? ⟨C,1,none⟩=some (.int .i64 a.a):=cell_of hC' rfl;have c2:w.cell? ⟨C,2,none⟩=some (.int .i64 a.b):=cell_of hC' rfl;have c3:w.cell? ⟨C,3,none⟩=some (.int .i64 a.c):=cell_of hC' rfl;have c4:w.cell? ⟨C,4,none⟩=some (.int .i64 a.d):=cell_of hC' rfl;have HY:Hid (Tok np d a/\(T.length:Int)=d.g/\d.g<=250/\(∀g,v8.ownBlock=some g->g=q)/\q≠C/\q≠0/\a.o=(n:Int)/\n<43):=(⟨ht,hl,hgb,hqq,hqC,hqG,hn,n42⟩:_/\_)
 have HST:Hid (∀W,Kb 0 w W->PuI a T base q C vt vg v8 v9 w 0 W):=(λW k=>⟨hO.kb k,(k.block C zq (Array.getElem?_eq_some_iff.1 hC').1).trans hC,Kv.of_kb k,hgd.keep k⟩:∀W,_)
 obtain⟨pv,cv,hv8⟩:=own_shape hO;subst hv8;clear hC hC' hgd hO hqq hqC hqG ht hl hgb hn n42;go_enter Tryz.func83,Tryz.ntmps83;go_wp2_with fail;refine(HF w).mono ?_;rintro e w3 ⟨rfl,k3⟩;have HS:Hid (PuI a T base q C vt vg (.slice pv T.length cv) v9 w 0 w3):=(uh HST) w3 k3;clear k3 HF HST c0 c1 c2 c3 c4;have hix0:=ix_0 a.a a.b a.c a.d;have hix1:=ix_1 a.a a.b a.c a.d;have hix2:=ix_2 a.a a.b a.c a.d;have hix3:=ix_3 a.a a.b a.c a.d;go_wp2_with fail
 go_loopw [9] (λsl wr=>∃j:Nat,sl=.int .i64 j/\j<=4/\Hid (PuI a T base q C vt vg (.slice pv T.length cv) v9 w j wr)) (λsl _=>4-(intOf sl).toNat)
 case atStart=>exact⟨0,rfl,Nat.zero_le _,HS⟩
 case round=>
  obtain⟨j,rfl,hj,HX⟩:=hrel;clear HS;have hX:=(uh HX)
  clear HX;rcases Nat.lt_or_ge j 4 with h|h
  ·obtain⟨ht,hl,hgb,hqq,hqC,hqG,hn,n42⟩:=(uh HY)
   have hon:a.o.toNat=n:=by omega
   have htk:=ht.2.2 j h;rw[hon]at htk;have hg:=hX.2.2.2 n n42 j h;have hb8:wr.heap[C]? =_:=hX.2.1;have y0:wr.cell? ⟨C,0,none⟩=some (.int .i64 n):=by rw[<-hn];exact cell_of hb8 rfl
   have y8:wr.cell? ⟨C,8,none⟩=some (.slice pv T.length cv):=cell_of hb8 rfl;have nI:(n:Int)<43:=by omega
   have lI:(T.length:Int)<=250:=by omega
   have hpn:putn a T (j+1)=put1 (pr n j) (fld a j) (putn a T j):=by rw[<-hon];rfl
   by_cases hr12:pr n j=12
   ·rw[hr12]at htk hg hpn;rw[show((12:Nat):Int)=12 from rfl]at hg;have htk:0<=fld a j/\fld a j<=d.g-1:=htk;obtain⟨k,hk1,hxk⟩:∃k:Nat,0<=k/\fld a j=(k:Int):=⟨(fld a j).toNat,by omega,by omega⟩
    obtain⟨b,cap,y,e1,e2,cy,fz,hset⟩:=hX.set hqq hqC hqG (k:=k) (by omega);have e3:=Value.slice.inj e1;obtain⟨rfl,rfl⟩:pv=some b/\cv=cap:=⟨e3.1,e3.2.2⟩
    have kI:(k:Int)<(T.length:Int):=by omega
    have cI:(T.length:Int)<=(cv:Int):=by omega
    have HN:Hid (PuI a T base q C vt vg (.slice (some b) T.length cv) v9 w (j+1) (wr.setCell (b.add k) (.int .i64 1))):=hset 1 (by rw[hpn,hxk];rfl);clear hX ht hl hgb hqq hqC hqG hn n42 hon htk hb8 hpn hr12 hk1 hset e1 e2 e3 hj;rcases(by omega:j=0\/j=1\/j=2\/j=3)with rfl|rfl|rfl|rfl
    ·replace hxk:a.a=(k:Int):=hxk;replace hg:wr.cell? ⟨0,n*4,none⟩=some (.int .u8 12):=hg;have hix:∀W,(Instr.index 176 (.agg #[.int .i64 a.a,.int .i64 a.b,.int .i64 a.c,.int .i64 a.d]) (.int .i64 0)).run Tryz.prog W=.ok (.int .i64 ((k:Int))) W:=λW=>by rw[hix0 W,hxk]
     clear hix0 hix1 hix2 hix3 hxk h;go_wp2_with fail;go_roundw
     case rel=>exact⟨0+1,by go_num,by omega,HN⟩
     case measure=>simp[intOf]
    ·replace hxk:a.b=(k:Int):=hxk
     have hix:∀W,(Instr.index 176 (.agg #[.int .i64 a.a,.int .i64 a.b,.int .i64 a.c,.int .i64 a.d]) (.int .i64 1)).run Tryz.prog W=.ok (.int .i64 ((k:Int))) W:=λW=>by rw[hix1 W,hxk]
     clear hix0 hix1 hix2 hix3 hxk h;go_wp2_with fail;go_roundw
     case rel=>exact⟨1+1,by go_num,by omega,HN⟩
     case measure=>simp[intOf]
    ·replace hxk:a.c=(k:Int):=hxk
     have hix:∀W,(Instr.index 176 (.agg #[.int .i64 a.a,.int .i64 a.b,.int .i64 a.c,.int .i64 a.d]) (.int .i64 2)).run Tryz.prog W=.ok (.int .i64 ((k:Int))) W:=λW=>by rw[hix2 W,hxk]
     clear hix0 hix1 hix2 hix3 hxk h;go_wp2_with fail;go_roundw
     case rel=>exact⟨2+1,by go_num,by omega,HN⟩
     case measure=>simp[intOf]
    ·replace hxk:a.d=(k:Int):=hxk
     have hix:∀W,(Instr.index 176 (.agg #[.int .i64 a.a,.int .i64 a.b,.int .i64 a.c,.int .i64 a.d]) (.int .i64 3)).run Tryz.prog W=.ok (.int .i64 ((k:Int))) W:=λW=>by rw[hix3 W,hxk]
     clear hix0 hix1 hix2 hix3 hxk h;go_wp2_with fail;go_roundw
     case rel=>exact⟨3+1,by go_num,by omega,HN⟩
     case measure=>simp[intOf]
   by_cases hr13:pr n j=13
   ·rw[hr13]at htk hg hpn;rw[show((13:Nat):Int)=13 from rfl]at hg;have htk:0<=fld a j/\fld a j<=d.g-1:=htk;obtain⟨k,hk1,hxk⟩:∃k:Nat,0<=k/\fld a j=(k:Int):=⟨(fld a j).toNat,by omega,by omega⟩
    obtain⟨b,cap,y,e1,e2,cy,fz,hset⟩:=hX.set hqq hqC hqG (k:=k) (by omega);have e3:=Value.slice.inj e1;obtain⟨rfl,rfl⟩:pv=some b/\cv=cap:=⟨e3.1,e3.2.2⟩
    have kI:(k:Int)<(T.length:Int):=by omega
    have cI:(T.length:Int)<=(cv:Int):=by omega
    have HN:Hid (PuI a T base q C vt vg (.slice (some b) T.length cv) v9 w (j+1) (wr.setCell (b.add k) (.int .i64 2))):=hset 2 (by rw[hpn,hxk];rfl);clear hX ht hl hgb hqq hqC hqG hn n42 hon htk hb8 hpn hr13 hk1 hset e1 e2 e3 hj;rcases(by omega:j=0\/j=1\/j=2\/j=3)with rfl|rfl|rfl|rfl
    ·replace hxk:a.a=(k:Int):=hxk;replace hg:wr.cell? ⟨0,n*4,none⟩=some (.int .u8 13):=hg;have hix:∀W,(Instr.index 176 (.agg #[.int .i64 a.a,.int .i64 a.b,.int .i64 a.c,.int .i64 a.d]) (.int .i64 0)).run Tryz.prog W=.ok (.int .i64 ((k:Int))) W:=λW=>by rw[hix0 W,hxk]
     clear hix0 hix1 hix2 hix3 hxk h;go_wp2_with fail;go_roundw
     case rel=>exact⟨0+1,by go_num,by omega,HN⟩
     case measure=>simp[intOf]
    ·replace hxk:a.b=(k:Int):=hxk
     have hix:∀W,(Instr.index 176 (.agg #[.int .i64 a.a,.int .i64 a.b,.int .i64 a.c,.int .i64 a.d]) (.int .i64 1)).run Tryz.prog W=.ok (.int .i64 ((k:Int))) W:=λW=>by rw[hix1 W,hxk]
     clear hix0 hix1 hix2 hix3 hxk h;go_wp2_with fail;go_roundw
     case rel=>exact⟨1+1,by go_num,by omega,HN⟩
     case measure=>simp[intOf]
    ·replace hxk:a.c=(k:Int):=hxk
     have hix:∀W,(Instr.index 176 (.agg #[.int .i64 a.a,.int .i64 a.b,.int .i64 a.c,.int .i64 a.d]) (.int .i64 2)).run Tryz.prog W=.ok (.int .i64 ((k:Int))) W:=λW=>by rw[hix2 W,hxk]
     clear hix0 hix1 hix2 hix3 hxk h;go_wp2_with fail;go_roundw
     case rel=>exact⟨2+1,by go_num,by omega,HN⟩
     case measure=>simp[intOf]
    ·replace hxk:a.d=(k:Int):=hxk
     have hix:∀W,(Instr.index 176 (.agg #[.int .i64 a.a,.int .i64 a.b,.int .i64 a.c,.int .i64 a.d]) (.int .i64 3)).run Tryz.prog W=.ok (.int .i64 ((k:Int))) W:=λW=>by rw[hix3 W,hxk]
     clear hix0 hix1 hix2 hix3 hxk h;go_wp2_with fail;go_roundw
     case rel=>exact⟨3+1,by go_num,by omega,HN⟩
     case measure=>simp[intOf]
   by_cases hr14:pr n j=14
   ·rw[hr14]at htk hg hpn;rw[show((14:Nat):Int)=14 from rfl]at hg;have htk:0<=fld a j/\fld a j<=d.g-1:=htk;obtain⟨k,hk1,hxk⟩:∃k:Nat,0<=k/\fld a j=(k:Int):=⟨(fld a j).toNat,by omega,by omega⟩
    obtain⟨b,cap,y,e1,e2,cy,fz,hset⟩:=hX.set hqq hqC hqG (k:=k) (by omega);have e3:=Value.slice.inj e1;obtain⟨rfl,rfl⟩:pv=some b/\cv=cap:=⟨e3.1,e3.2.2⟩
    have kI:(k:Int)<(T.length:Int):=by omega
    have cI:(T.length:Int)<=(cv:Int):=by omega
    have HN:Hid (PuI a T base q C vt vg (.slice (some b) T.length cv) v9 w (j+1) (wr.setCell (b.add k) (.int .i64 3))):=hset 3 (by rw[hpn,hxk];rfl);clear hX ht hl hgb hqq hqC hqG hn n42 hon htk hb8 hpn hr14 hk1 hset e1 e2 e3 hj;rcases(by omega:j=0\/j=1\/j=2\/j=3)with rfl|rfl|rfl|rfl
    ·replace hxk:a.a=(k:Int):=hxk;replace hg:wr.cell? ⟨0,n*4,none⟩=some (.int .u8 14):=hg;have hix:∀W,(Instr.index 176 (.agg #[.int .i64 a.a,.int .i64 a.b,.int .i64 a.c,.int .i64 a.d]) (.int .i64 0)).run Tryz.prog W=.ok (.int .i64 ((k:Int))) W:=λW=>by rw[hix0 W,hxk]
     clear hix0 hix1 hix2 hix3 hxk h;go_wp2_with fail;go_roundw
     case rel=>exact⟨0+1,by go_num,by omega,HN⟩
     case measure=>simp[intOf]
    ·replace hxk:a.b=(k:Int):=hxk
     have hix:∀W,(Instr.index 176 (.agg #[.int .i64 a.a,.int .i64 a.b,.int .i64 a.c,.int .i64 a.d]) (.int .i64 1)).run Tryz.prog W=.ok (.int .i64 ((k:Int))) W:=λW=>by rw[hix1 W,hxk]
     clear hix0 hix1 hix2 hix3 hxk h;go_wp2_with fail;go_roundw
     case rel=>exact⟨1+1,by go_num,by omega,HN⟩
     case measure=>simp[intOf]
    ·replace hxk:a.c=(k:Int):=hxk
     have hix:∀W,(Instr.index 176 (.agg #[.int .i64 a.a,.int .i64 a.b,.int .i64 a.c,.int .i64 a.d]) (.int .i64 2)).run Tryz.prog W=.ok (.int .i64 ((k:Int))) W:=λW=>by rw[hix2 W,hxk]
     clear hix0 hix1 hix2 hix3 hxk h;go_wp2_with fail;go_roundw
     case rel=>exact⟨2+1,by go_num,by omega,HN⟩
     case measure=>simp[intOf]
    ·replace hxk:a.d=(k:Int):=hxk
     have hix:∀W,(Instr.index 176 (.agg #[.int .i64 a.a,.int .i64 a.b,.int .i64 a.c,.int .i64 a.d]) (.int .i64 3)).run Tryz.prog W=.ok (.int .i64 ((k:Int))) W:=λW=>by rw[hix3 W,hxk]
     clear hix0 hix1 hix2 hix3 hxk h;go_wp2_with fail;go_roundw
     case rel=>exact⟨3+1,by go_num,by omega,HN⟩
     case measure=>simp[intOf]
   by_cases hr15:pr n j=15
   ·rw[hr15]at htk hg hpn;rw[show((15:Nat):Int)=15 from rfl]at hg;have htk:0<=fld a j/\fld a j<=d.g-1:=htk;obtain⟨k,hk1,hxk⟩:∃k:Nat,0<=k/\fld a j=(k:Int):=⟨(fld a j).toNat,by omega,by omega⟩
    obtain⟨b,cap,y,e1,e2,cy,fz,hset⟩:=hX.set hqq hqC hqG (k:=k) (by omega);have e3:=Value.slice.inj e1;obtain⟨rfl,rfl⟩:pv=some b/\cv=cap:=⟨e3.1,e3.2.2⟩
    have kI:(k:Int)<(T.length:Int):=by omega
    have cI:(T.length:Int)<=(cv:Int):=by omega
    have HN:Hid (PuI a T base q C vt vg (.slice (some b) T.length cv) v9 w (j+1) (wr.setCell (b.add k) (.int .i64 0))):=hset 0 (by rw[hpn,hxk];rfl);clear hX ht hl hgb hqq hqC hqG hn n42 hon htk hb8 hpn hr15 hk1 hset e1 e2 e3 hj;rcases(by omega:j=0\/j=1\/j=2\/j=3)with rfl|rfl|rfl|rfl
    ·replace hxk:a.a=(k:Int):=hxk;replace hg:wr.cell? ⟨0,n*4,none⟩=some (.int .u8 15):=hg;have hix:∀W,(Instr.index 176 (.agg #[.int .i64 a.a,.int .i64 a.b,.int .i64 a.c,.int .i64 a.d]) (.int .i64 0)).run Tryz.prog W=.ok (.int .i64 ((k:Int))) W:=λW=>by rw[hix0 W,hxk]
     clear hix0 hix1 hix2 hix3 hxk h;go_wp2_with fail;go_roundw
     case rel=>exact⟨0+1,by go_num,by omega,HN⟩
     case measure=>simp[intOf]
    ·replace hxk:a.b=(k:Int):=hxk
     have hix:∀W,(Instr.index 176 (.agg #[.int .i64 a.a,.int .i64 a.b,.int .i64 a.c,.int .i64 a.d]) (.int .i64 1)).run Tryz.prog W=.ok (.int .i64 ((k:Int))) W:=λW=>by rw[hix1 W,hxk]
     clear hix0 hix1 hix2 hix3 hxk h;go_wp2_with fail;go_roundw
     case rel=>exact⟨1+1,by go_num,by omega,HN⟩
     case measure=>simp[intOf]
    ·replace hxk:a.c=(k:Int):=hxk
     have hix:∀W,(Instr.index 176 (.agg #[.int .i64 a.a,.int .i64 a.b,.int .i64 a.c,.int .i64 a.d]) (.int .i64 2)).run Tryz.prog W=.ok (.int .i64 ((k:Int))) W:=λW=>by rw[hix2 W,hxk]
     clear hix0 hix1 hix2 hix3 hxk h;go_wp2_with fail;go_roundw
     case rel=>exact⟨2+1,by go_num,by omega,HN⟩
     case measure=>simp[intOf]
    ·replace hxk:a.d=(k:Int):=hxk
     have hix:∀W,(Instr.index 176 (.agg #[.int .i64 a.a,.int .i64 a.b,.int .i64 a.c,.int .i64 a.d]) (.int .i64 3)).run Tryz.prog W=.ok (.int .i64 ((k:Int))) W:=λW=>by rw[hix3 W,hxk]
     clear hix0 hix1 hix2 hix3 hxk h;go_wp2_with fail;go_roundw
     case rel=>exact⟨3+1,by go_num,by omega,HN⟩
     case measure=>simp[intOf]
   by_cases hr21:pr n j=21
   ·rw[hr21]at htk hg hpn;rw[show((21:Nat):Int)=21 from rfl]at hg;have htk:0<=fld a j/\fld a j<=d.g-2:=htk;obtain⟨k,hk1,hxk⟩:∃k:Nat,1<=k/\fld a j=(k:Int)-1:=⟨(fld a j+1).toNat,by omega,by omega⟩
    obtain⟨b,cap,y,e1,e2,cy,fz,hset⟩:=hX.set hqq hqC hqG (k:=k) (by omega);have e3:=Value.slice.inj e1;obtain⟨rfl,rfl⟩:pv=some b/\cv=cap:=⟨e3.1,e3.2.2⟩
    have kI:(k:Int)<(T.length:Int):=by omega
    have cI:(T.length:Int)<=(cv:Int):=by omega
    have HN:Hid (PuI a T base q C vt vg (.slice (some b) T.length cv) v9 w (j+1) (wr.setCell (b.add k) (.int .i64 1))):=hset 1 (by rw[hpn,hxk];unfold put1;rw[if_neg (by decide),if_neg (by decide),if_neg (by decide),if_neg (by decide),if_pos rfl,show((k:Int)-1+1).toNat=k by omega]);clear hX ht hl hgb hqq hqC hqG hn n42 hon htk hb8 hpn hr21 hk1 hset e1 e2 e3 hj;rcases(by omega:j=0\/j=1\/j=2\/j=3)with rfl|rfl|rfl|rfl
    ·replace hxk:a.a=(k:Int)-1:=hxk;replace hg:wr.cell? ⟨0,n*4,none⟩=some (.int .u8 21):=hg;have hix:∀W,(Instr.index 176 (.agg #[.int .i64 a.a,.int .i64 a.b,.int .i64 a.c,.int .i64 a.d]) (.int .i64 0)).run Tryz.prog W=.ok (.int .i64 ((k:Int)-1)) W:=λW=>by rw[hix0 W,hxk]
     clear hix0 hix1 hix2 hix3 hxk h;go_wp2_with fail;go_roundw
     case rel=>exact⟨0+1,by go_num,by omega,HN⟩
     case measure=>simp[intOf]
    ·replace hxk:a.b=(k:Int)-1:=hxk
     have hix:∀W,(Instr.index 176 (.agg #[.int .i64 a.a,.int .i64 a.b,.int .i64 a.c,.int .i64 a.d]) (.int .i64 1)).run Tryz.prog W=.ok (.int .i64 ((k:Int)-1)) W:=λW=>by rw[hix1 W,hxk]
     clear hix0 hix1 hix2 hix3 hxk h;go_wp2_with fail;go_roundw
     case rel=>exact⟨1+1,by go_num,by omega,HN⟩
     case measure=>simp[intOf]
    ·replace hxk:a.c=(k:Int)-1:=hxk
     have hix:∀W,(Instr.index 176 (.agg #[.int .i64 a.a,.int .i64 a.b,.int .i64 a.c,.int .i64 a.d]) (.int .i64 2)).run Tryz.prog W=.ok (.int .i64 ((k:Int)-1)) W:=λW=>by rw[hix2 W,hxk]
     clear hix0 hix1 hix2 hix3 hxk h;go_wp2_with fail;go_roundw
     case rel=>exact⟨2+1,by go_num,by omega,HN⟩
     case measure=>simp[intOf]
    ·replace hxk:a.d=(k:Int)-1:=hxk
     have hix:∀W,(Instr.index 176 (.agg #[.int .i64 a.a,.int .i64 a.b,.int .i64 a.c,.int .i64 a.d]) (.int .i64 3)).run Tryz.prog W=.ok (.int .i64 ((k:Int)-1)) W:=λW=>by rw[hix3 W,hxk]
     clear hix0 hix1 hix2 hix3 hxk h;go_wp2_with fail;go_roundw
     case rel=>exact⟨3+1,by go_num,by omega,HN⟩
     case measure=>simp[intOf]
   have gr12:=bne (show((pr n j:Nat):Int)≠12 by omega);have gr13:=bne (show((pr n j:Nat):Int)≠13 by omega);have gr14:=bne (show((pr n j:Nat):Int)≠14 by omega);have gr15:=bne (show((pr n j:Nat):Int)≠15 by omega);have gr21:=bne (show((pr n j:Nat):Int)≠21 by omega)
   have HN:Hid (PuI a T base q C vt vg (.slice pv T.length cv) v9 w (j+1) wr):=by
    refine⟨?_,hX.2⟩;rw[hpn];unfold put1;rw[if_neg hr12,if_neg hr13,if_neg hr14,if_neg hr15,if_neg hr21];exact hX.1
   clear hX ht hl hgb hqq hqC hqG hn n42 hon htk hb8 hpn hr12 hr13 hr14 hr15 hr21 hj;rcases(by omega:j=0\/j=1\/j=2\/j=3)with rfl|rfl|rfl|rfl
   ·replace hg:wr.cell? ⟨0,n*4,none⟩=some (.int .u8 (pr n 0:Int)):=hg;generalize pr n 0=rj at*;clear h;go_wp2_with fail;go_roundw
    case rel=>exact⟨0+1,by go_num,by omega,HN⟩
    case measure=>simp[intOf]
   ·skip
    generalize pr n 1=rj at*;clear h;go_wp2_with fail;go_roundw
    case rel=>exact⟨1+1,by go_num,by omega,HN⟩
    case measure=>simp[intOf]
   ·skip
    generalize pr n 2=rj at*;clear h;go_wp2_with fail;go_roundw
    case rel=>exact⟨2+1,by go_num,by omega,HN⟩
    case measure=>simp[intOf]
   ·skip
    generalize pr n 3=rj at*;clear h;go_wp2_with fail;go_roundw
    case rel=>exact⟨3+1,by go_num,by omega,HN⟩
    case measure=>simp[intOf]
  ·have jI:¬(j:Int)<4:=by omega
   obtain rfl:j=4:=by omega
   have HZ:Hid (PuA a T base q C vt vg (.slice pv T.length cv) v9 w (.returned (.tuple #[])) wr):=⟨rfl,hX.1,hX.2.1,hX.2.2.1⟩
   clear hX h hj hix0 hix1 hix2 hix3;go_wp2_with fail;refine⟨rfl,.tuple #[],by simp[results,Tryz.results83],?_⟩;exact HZ
def GbA(a:Iv)(G:List Gv)(w:World)(e:Ending)(w':World):Prop:=∃v,e=.returned v/\Rg (λk=>w.heap.size<=k) w' v (gbh a G)/\Kb 0 w w'
theorem gb_oth(w:World)(hC:ChB C a vt vg v8 v9 w)(r:Rg av w vg G)(hn:G.length<=50)(hf:gfit a G)(h:a.o≠31/\a.o≠33/\a.o≠34/\a.o≠32/\a.o≠36):
  Calls Tryz.prog 86 #[.pointer (some ⟨C,0,none⟩)] w (GbA a G w):=by
 obtain⟨m31,m33,m34,m32,m36⟩:=h;have g31:=bne m31;have g33:=bne m33;have g34:=bne m34;have g32:=bne m32;have g36:=bne m36;have HB:Hid (gbh a G=G):=(by unfold gbh;simp[m31,m33,m34,m32,m36]:gbh a G=G)
 clear m31 m33 m34 m32 m36 hf;have hC':w.heap[C]? =_:=hC;have c7:w.cell? ⟨C,7,none⟩=some vg:=cell_of hC' rfl;have HCL:=im_cloneg w r (by omega);have hCs:C<w.heap.size:=(Array.getElem?_eq_some_iff.1 hC').1;obtain⟨pg,cg,rfl,-,-⟩:=r;have HC0:Hid (∀W,Kb 0 w W->W.cell? ⟨C,0,none⟩=some (.int .i64 a.o)/\W.cell? ⟨C,1,none⟩=some (.int .i64 a.a)/\W.cell? ⟨C,2,none⟩=some (.int .i64 a.b)):=(λW k=>⟨k.cell (cell_of hC' rfl),k.cell (cell_of hC' rfl),k.cell (cell_of hC' rfl)⟩:∀W,_)
 have HCS:Hid (C<w.heap.size/\G.length<=50):=(⟨hCs,hn⟩:_/\_)
 have nI:(G.length:Int)<=50:=by omega
 clear hC hC' hCs;go_enter Tryz.func86,Tryz.ntmps86;go_upto_region 2 with(go_at_call 21;refine HCL.mono ?_;rintro e w3 ⟨v,rfl,hO,k3⟩;obtain⟨ad,cap,rfl⟩:=own_shape hO;obtain⟨c0,c1,c2⟩:=(uh HC0) w3 k3;have HO:Hid (OwG w.heap.size w3 (.slice ad G.length cap) G/\Kb 0 w w3):=(⟨hO,k3⟩:_/\_);clear hO k3 HCL c7);have HZ:Hid (GbA a G w (.returned (.slice ad G.length cap)) w3):=⟨_,rfl,by rw[(uh HB)];exact(uh HO).1.rg,(uh HO).2⟩
 clear HO HC0 HCS;go_wp2_with fail;refine bodyPost_ret (by simp[results,Tryz.results86,go_sem];rfl) rfl ?_;exact HZ
theorem gb_33(w:World)(hC:ChB C a vt vg v8 v9 w)(r:Rg av w vg G)(hn:G.length<=50)(hf:gfit a G)(h:a.o=33):
  Calls Tryz.prog 86 #[.pointer (some ⟨C,0,none⟩)] w (GbA a G w):=by
 have HB:Hid (gbh a G=G++[(false,a.a,0)]):=(by unfold gbh;simp[h]:gbh a G=G++[(false,a.a,0)])
 clear hf;have hC':w.heap[C]? =_:=hC;have c7:w.cell? ⟨C,7,none⟩=some vg:=cell_of hC' rfl;have HCL:=im_cloneg w r (by omega);have hCs:C<w.heap.size:=(Array.getElem?_eq_some_iff.1 hC').1;obtain⟨pg,cg,rfl,-,-⟩:=r;have HC0:Hid (∀W,Kb 0 w W->W.cell? ⟨C,0,none⟩=some (.int .i64 33)/\W.cell? ⟨C,1,none⟩=some (.int .i64 a.a)/\W.cell? ⟨C,2,none⟩=some (.int .i64 a.b)):=(λW k=>⟨k.cell (by rw[<-h];exact cell_of hC' rfl),k.cell (cell_of hC' rfl),k.cell (cell_of hC' rfl)⟩:∀W,_)
 have HCS:Hid (C<w.heap.size/\G.length<=50):=(⟨hCs,hn⟩:_/\_)
 have nI:(G.length:Int)<=50:=by omega
 clear hC hC' hCs;go_enter Tryz.func86,Tryz.ntmps86;go_upto_region 2 with(go_at_call 21;refine HCL.mono ?_;rintro e w3 ⟨v,rfl,hO,k3⟩;obtain⟨ad,cap,rfl⟩:=own_shape hO;obtain⟨c0,c1,c2⟩:=(uh HC0) w3 k3;have HO:Hid (OwG w.heap.size w3 (.slice ad G.length cap) G/\Kb 0 w w3):=(⟨hO,k3⟩:_/\_);clear hO k3 HCL c7);have hO:=(uh HO)
 have howna:∀o,(w3.alloc o).ownsRow w.heap.size 62 3 (.slice ad G.length cap) G.length (G.flatMap gcl):=λo=>World.ownsRow.alloc hO.1 o;have hqc:=qr_cells w3 #[.bool false,.int .i64 a.a,.int .i64 0] 62 [.bool false,.int .i64 a.a,.int .i64 0] rfl;have h1c:∀u ∈ ([.bool false,.int .i64 a.a,.int .i64 0]:List Value),u.oneCell'=true:=by intro u hu;simp at hu;rcases hu with rfl|rfl|rfl<;>rfl
 have hs3:w.heap.size<=w3.heap.size:=hO.2.size;have HSTP:Hid (∀(E:Obj) (g' c':Nat) (w7:World),w7.ownsRow w.heap.size 62 3 (.slice (some ⟨g',0,none⟩) (G.length+1) c') (G.length+1) (G.flatMap gcl++[.bool false,.int .i64 a.a,.int .i64 0])->(w3.alloc E).grownBy w7 (Value.slice ad G.length cap).ownBlock->GbA a G w (.returned (.slice (some ⟨g',0,none⟩) (G.length+1) c')) w7):=(λE g' c' w7 h1 h2=>⟨_,rfl,by rw[(uh HB)];exact(owg_app (g:=(false,a.a,0)) rfl h1).rg,(hO.2.alloc E).gr h2 (λb e=>(hO.1.lt b e).1)⟩:∀(E:Obj),_)
 have hnn:=(uh HCS).2;obtain⟨i0,hi0,hz0,hzs,hzb⟩:=info_parts infoG;have HI0:Hid (Tryz.prog.info? 62=some i0):=hi0;clear hi0;clear hO HO HC0 HCS HB h hn;go_wp2_with (at_builtin;refine wpList_append_lies _ rfl (.tmp 37) (.tmp 44) 56 rfl w.heap.size 62 i0 (.agg #[.bool false,.int .i64 0,.int .i64 0]) 3 24 Tryz.underlying56 HI0 hz0 hzs hzb rfl (by decide) _ _ _ rfl (howna _) ⟨w3.heap.size,0,none⟩ 1 1 [.bool false,.int .i64 a.a,.int .i64 0] rfl rfl hqc h1c (by decide) (by unfold maxLen;omega) (by omega) (by rw[World.size_alloc];omega) (w3.heap.size+1) (by simp) ?_;intro g cap' w7 hown3 hgr3 hl3 _;have HZ:Hid _:=(uh HSTP) _ _ _ _ hown3 hgr3;clear hown3 hgr3 hl3 howna hqc h1c HSTP);refine bodyPost_ret (by simp[results,Tryz.results86,go_sem];rfl) rfl ?_;exact HZ
theorem gb_31(w:World)(hC:ChB C a vt vg v8 v9 w)(r:Rg av w vg G)(hn:G.length<=50)(hf:gfit a G)(h:a.o=31):
  Calls Tryz.prog 86 #[.pointer (some ⟨C,0,none⟩)] w (GbA a G w):=by
 have HB:Hid (gbh a G=G++[(true,a.b,a.a)]):=(by unfold gbh;simp[h]:gbh a G=G++[(true,a.b,a.a)])
 clear hf;have hC':w.heap[C]? =_:=hC;have c7:w.cell? ⟨C,7,none⟩=some vg:=cell_of hC' rfl;have HCL:=im_cloneg w r (by omega);have hCs:C<w.heap.size:=(Array.getElem?_eq_some_iff.1 hC').1;obtain⟨pg,cg,rfl,-,-⟩:=r;have HC0:Hid (∀W,Kb 0 w W->W.cell? ⟨C,0,none⟩=some (.int .i64 31)/\W.cell? ⟨C,1,none⟩=some (.int .i64 a.a)/\W.cell? ⟨C,2,none⟩=some (.int .i64 a.b)):=(λW k=>⟨k.cell (by rw[<-h];exact cell_of hC' rfl),k.cell (cell_of hC' rfl),k.cell (cell_of hC' rfl)⟩:∀W,_)
 have HCS:Hid (C<w.heap.size/\G.length<=50):=(⟨hCs,hn⟩:_/\_)
 have nI:(G.length:Int)<=50:=by omega
 clear hC hC' hCs;go_enter Tryz.func86,Tryz.ntmps86;go_upto_region 2 with(go_at_call 21;refine HCL.mono ?_;rintro e w3 ⟨v,rfl,hO,k3⟩;obtain⟨ad,cap,rfl⟩:=own_shape hO;obtain⟨c0,c1,c2⟩:=(uh HC0) w3 k3;have HO:Hid (OwG w.heap.size w3 (.slice ad G.length cap) G/\Kb 0 w w3):=(⟨hO,k3⟩:_/\_);clear hO k3 HCL c7);have hO:=(uh HO)
 have howna:∀o,(w3.alloc o).ownsRow w.heap.size 62 3 (.slice ad G.length cap) G.length (G.flatMap gcl):=λo=>World.ownsRow.alloc hO.1 o;have hqc:=qr_cells w3 #[.bool true,.int .i64 a.b,.int .i64 a.a] 62 [.bool true,.int .i64 a.b,.int .i64 a.a] rfl;have h1c:∀u ∈ ([.bool true,.int .i64 a.b,.int .i64 a.a]:List Value),u.oneCell'=true:=by intro u hu;simp at hu;rcases hu with rfl|rfl|rfl<;>rfl
 have hs3:w.heap.size<=w3.heap.size:=hO.2.size;have HSTP:Hid (∀(W4:World) (g' c':Nat) (w7:World),Kb 0 w W4->w7.ownsRow w.heap.size 62 3 (.slice (some ⟨g',0,none⟩) (G.length+1) c') (G.length+1) (G.flatMap gcl++[.bool true,.int .i64 a.b,.int .i64 a.a])->W4.grownBy w7 (Value.slice ad G.length cap).ownBlock->GbA a G w (.returned (.slice (some ⟨g',0,none⟩) (G.length+1) c')) w7):=(λW4 g' c' w7 k4 h1 h2=>⟨_,rfl,by rw[(uh HB)];exact(owg_app (g:=(true,a.b,a.a)) rfl h1).rg,k4.gr h2 (λb e=>(hO.1.lt b e).1)⟩:∀(W4:World),_)
 have HK3:Hid (∀E,Kb 0 w (w3.alloc E).drew/\Kb 0 w (w3.drew.alloc E)):=(λE=>⟨(hO.2.alloc E).drew,hO.2.drew.alloc E⟩:∀E,_)
 have hownb:∀o,(w3.drew.alloc o).ownsRow w.heap.size 62 3 (.slice ad G.length cap) G.length (G.flatMap gcl):=λo=>World.ownsRow.alloc (World.ownsRow.drew hO.1) o;have hqb:=qr_cells w3.drew #[.bool true,.int .i64 a.b,.int .i64 a.a] 62 [.bool true,.int .i64 a.b,.int .i64 a.a] rfl;have hnn:=(uh HCS).2;obtain⟨i0,hi0,hz0,hzs,hzb⟩:=info_parts infoG;have HI0:Hid (Tryz.prog.info? 62=some i0):=hi0;clear hi0;clear hO HO HC0 HCS HB h hn;go_upto_region 5 with fail
 go_region_law (refine step_append_lies _ rfl (.tmp 21) (.tmp 33) 56 rfl w.heap.size 62 i0 (.agg #[.bool false,.int .i64 0,.int .i64 0]) 3 24 Tryz.underlying56 HI0 hz0 hzs hzb rfl (by decide) (.slice ad G.length cap) G.length (G.flatMap gcl) (by simp[Act.eval]) (by first|exact howna _|exact hownb _|exact World.ownsRow.drew (howna _)) ⟨w3.heap.size,0,none⟩ 1 1 [.bool true,.int .i64 a.b,.int .i64 a.a] (by simp[Act.eval]) rfl (by first|exact hqc|exact hqb|exact λj u hj=>hqc j u hj) h1c (by decide) (by unfold maxLen;omega) (by omega) (by simp;omega) (w3.heap.size+1) (by simp) ?_;intro g cap' w7 hown3 hgr3 hl3 _;have HZ:Hid _:=(uh HSTP) _ _ _ _ (by first|exact((uh HK3) _).1|exact((uh HK3) _).2) hown3 hgr3;clear hown3 hgr3 hl3 howna hqc h1c HSTP)
 all_goals
  go_wp2_with fail;refine bodyPost_ret (by simp[results,Tryz.results86,go_sem];rfl) rfl ?_;exact HZ
theorem gb_32(w:World)(hC:ChB C a vt vg v8 v9 w)(r:Rg av w vg G)(hn:G.length<=50)(hf:gfit a G)(h:a.o=32):
  Calls Tryz.prog 86 #[.pointer (some ⟨C,0,none⟩)] w (GbA a G w):=by
 have hne:G≠ []:=λq=>by rw[q]at hf;unfold gfit at hf;simp[h,ctc]at hf
 have HLP:Hid (∃(m:Nat) (g:Gv),LastP G m g):=last_of hne;have HB:Hid (gbh a G=G.dropLast):=(by unfold gbh;simp[h]:gbh a G=G.dropLast)
 clear hf hne;have hC':w.heap[C]? =_:=hC;have c7:w.cell? ⟨C,7,none⟩=some vg:=cell_of hC' rfl;have HCL:=im_cloneg w r (by omega);have hCs:C<w.heap.size:=(Array.getElem?_eq_some_iff.1 hC').1;obtain⟨pg,cg,rfl,-,-⟩:=r;have HC0:Hid (∀W,Kb 0 w W->W.cell? ⟨C,0,none⟩=some (.int .i64 32)/\W.cell? ⟨C,1,none⟩=some (.int .i64 a.a)/\W.cell? ⟨C,2,none⟩=some (.int .i64 a.b)):=(λW k=>⟨k.cell (by rw[<-h];exact cell_of hC' rfl),k.cell (cell_of hC' rfl),k.cell (cell_of hC' rfl)⟩:∀W,_)
 have HCS:Hid (C<w.heap.size/\G.length<=50):=(⟨hCs,hn⟩:_/\_)
 have nI:(G.length:Int)<=50:=by omega
 clear hC hC' hCs;go_enter Tryz.func86,Tryz.ntmps86;go_upto_region 2 with(go_at_call 21;refine HCL.mono ?_;rintro e w3 ⟨v,rfl,hO,k3⟩;obtain⟨ad,cap,rfl⟩:=own_shape hO;obtain⟨c0,c1,c2⟩:=(uh HC0) w3 k3;have HO:Hid (OwG w.heap.size w3 (.slice ad G.length cap) G/\Kb 0 w w3):=(⟨hO,k3⟩:_/\_);clear hO k3 HCL c7);obtain⟨m,g,hL⟩:=(uh HLP)
 have hO:=(uh HO)
 obtain⟨q,rfl,hcap,hq2⟩:∃q,ad=some ⟨q,0,none⟩/\m+1<=cap/\w.heap.size<=q:=by
  rcases hO.1.2 with⟨e,e'⟩|⟨q,c',cur,e,h1',h2',h3',_⟩
  ·rw[hL.1]at e';omega
  ·obtain⟨rfl,rfl⟩:ad=some ⟨q,0,none⟩/\cap=c':=by simpa using e
   exact⟨q,rfl,by rw[hL.1]at h3';exact h3',h1'⟩
 have hcs:∀j x,G[j]? =some x->∀t,t<3->w3.cell? ⟨q,j*3+t,none⟩=(gcl x)[t]?:=λj x hx t ht=>by
  have e:=gcl_at G j x hx t ht;have hj:=(List.getElem?_eq_some_iff.1 hx).1;have:=World.ownsRow.cellAt hO.1 (j*3+t) (by omega);rw[this,e]
 obtain⟨b,hbq⟩:∃b:Addr,b=⟨q,0,none⟩:=⟨_,rfl⟩
 have hfz:∀j,w3.frozen? ⟨q,j,none⟩=false:=λj=>World.ownsRow.frozenAt hO.1 j;rw[<-hbq];rw[hL.1];have cI:(m:Int)+1<=(cap:Int):=by omega
 have mI:(m:Int)+1<=50:=by have:=(uh HCS).2;have:=hL.1;omega
 have HZ:Hid (GbA a G w (.returned (.slice (some b) m cap)) w3):=by
  refine⟨_,rfl,?_,hO.2⟩;rw[(uh HB)];refine⟨some b,cap,by rw[hL.2.2.2.2.2.1],by rw[hL.2.2.2.2.2.1];omega,λhp=>⟨b,rfl,by rw[hbq];exact hq2,λj x hx=>?_⟩⟩;have hj:=(List.getElem?_eq_some_iff.1 hx).1;have hx2:G[j]? =some x:=by rw[hL.2.2.2.2.1,List.getElem?_append_left hj];exact hx
  rw[hbq,addr0];exact⟨hcs j x hx2 0 (by omega),hcs j x hx2 1 (by omega),hcs j x hx2 2 (by omega)⟩
 clear hL hO hcap hq2 hcs hbq hfz HO HC0 HCS HLP HB h hn nI;go_wp2_with fail;refine bodyPost_ret (by simp[results,Tryz.results86,go_sem];rfl) rfl ?_;exact HZ
theorem gb_36(w:World)(hC:ChB C a vt vg v8 v9 w)(r:Rg av w vg G)(hn:G.length<=50)(hf:gfit a G)(h:a.o=36):
  Calls Tryz.prog 86 #[.pointer (some ⟨C,0,none⟩)] w (GbA a G w):=by
 have hne:G≠ []:=λq=>by rw[q]at hf;unfold gfit at hf;simp[h,dfr]at hf
 have HLP:Hid (∃(m:Nat) (g:Gv),LastP G m g):=last_of hne;have HB:Hid (gbh a G=G.dropLast):=(by unfold gbh;simp[h]:gbh a G=G.dropLast)
 clear hf hne;have hC':w.heap[C]? =_:=hC;have c7:w.cell? ⟨C,7,none⟩=some vg:=cell_of hC' rfl;have HCL:=im_cloneg w r (by omega);have hCs:C<w.heap.size:=(Array.getElem?_eq_some_iff.1 hC').1;obtain⟨pg,cg,rfl,-,-⟩:=r;have HC0:Hid (∀W,Kb 0 w W->W.cell? ⟨C,0,none⟩=some (.int .i64 36)/\W.cell? ⟨C,1,none⟩=some (.int .i64 a.a)/\W.cell? ⟨C,2,none⟩=some (.int .i64 a.b)):=(λW k=>⟨k.cell (by rw[<-h];exact cell_of hC' rfl),k.cell (cell_of hC' rfl),k.cell (cell_of hC' rfl)⟩:∀W,_)
 have HCS:Hid (C<w.heap.size/\G.length<=50):=(⟨hCs,hn⟩:_/\_)
 have nI:(G.length:Int)<=50:=by omega
 clear hC hC' hCs;go_enter Tryz.func86,Tryz.ntmps86;go_upto_region 2 with(go_at_call 21;refine HCL.mono ?_;rintro e w3 ⟨v,rfl,hO,k3⟩;obtain⟨ad,cap,rfl⟩:=own_shape hO;obtain⟨c0,c1,c2⟩:=(uh HC0) w3 k3;have HO:Hid (OwG w.heap.size w3 (.slice ad G.length cap) G/\Kb 0 w w3):=(⟨hO,k3⟩:_/\_);clear hO k3 HCL c7);obtain⟨m,g,hL⟩:=(uh HLP)
 have hO:=(uh HO)
 obtain⟨q,rfl,hcap,hq2⟩:∃q,ad=some ⟨q,0,none⟩/\m+1<=cap/\w.heap.size<=q:=by
  rcases hO.1.2 with⟨e,e'⟩|⟨q,c',cur,e,h1',h2',h3',_⟩
  ·rw[hL.1]at e';omega
  ·obtain⟨rfl,rfl⟩:ad=some ⟨q,0,none⟩/\cap=c':=by simpa using e
   exact⟨q,rfl,by rw[hL.1]at h3';exact h3',h1'⟩
 have hcs:∀j x,G[j]? =some x->∀t,t<3->w3.cell? ⟨q,j*3+t,none⟩=(gcl x)[t]?:=λj x hx t ht=>by
  have e:=gcl_at G j x hx t ht;have hj:=(List.getElem?_eq_some_iff.1 hx).1;have:=World.ownsRow.cellAt hO.1 (j*3+t) (by omega);rw[this,e]
 obtain⟨b,hbq⟩:∃b:Addr,b=⟨q,0,none⟩:=⟨_,rfl⟩
 have hfz:∀j,w3.frozen? ⟨q,j,none⟩=false:=λj=>World.ownsRow.frozenAt hO.1 j;rw[<-hbq];rw[hL.1];have cI:(m:Int)+1<=(cap:Int):=by omega
 have mI:(m:Int)+1<=50:=by have:=(uh HCS).2;have:=hL.1;omega
 have HZ:Hid (GbA a G w (.returned (.slice (some b) m cap)) w3):=by
  refine⟨_,rfl,?_,hO.2⟩;rw[(uh HB)];refine⟨some b,cap,by rw[hL.2.2.2.2.2.1],by rw[hL.2.2.2.2.2.1];omega,λhp=>⟨b,rfl,by rw[hbq];exact hq2,λj x hx=>?_⟩⟩;have hj:=(List.getElem?_eq_some_iff.1 hx).1;have hx2:G[j]? =some x:=by rw[hL.2.2.2.2.1,List.getElem?_append_left hj];exact hx
  rw[hbq,addr0];exact⟨hcs j x hx2 0 (by omega),hcs j x hx2 1 (by omega),hcs j x hx2 2 (by omega)⟩
 clear hL hO hcap hq2 hcs hbq hfz HO HC0 HCS HLP HB h hn nI;go_wp2_with fail;refine bodyPost_ret (by simp[results,Tryz.results86,go_sem];rfl) rfl ?_;exact HZ
theorem gb_34(w:World)(hC:ChB C a vt vg v8 v9 w)(r:Rg av w vg G)(hn:G.length<=50)(hf:gfit a G)(h:a.o=34):
  Calls Tryz.prog 86 #[.pointer (some ⟨C,0,none⟩)] w (GbA a G w):=by
 have hne:G≠ []:=λq=>by rw[q]at hf;unfold gfit at hf;simp[h,dfr]at hf
 have HLP:Hid (∃(m:Nat) (g:Gv),LastP G m g):=last_of hne;have HB:Hid (∀g,G.getLast?=some g->gbh a G=G.dropLast++[(g.1,a.a,g.2.2)]):=(λg hg=>by unfold gbh;simp[h,hg]:∀g,_)
 clear hf hne;have hC':w.heap[C]? =_:=hC;have c7:w.cell? ⟨C,7,none⟩=some vg:=cell_of hC' rfl;have HCL:=im_cloneg w r (by omega);have hCs:C<w.heap.size:=(Array.getElem?_eq_some_iff.1 hC').1;obtain⟨pg,cg,rfl,-,-⟩:=r;have HC0:Hid (∀W,Kb 0 w W->W.cell? ⟨C,0,none⟩=some (.int .i64 34)/\W.cell? ⟨C,1,none⟩=some (.int .i64 a.a)/\W.cell? ⟨C,2,none⟩=some (.int .i64 a.b)):=(λW k=>⟨k.cell (by rw[<-h];exact cell_of hC' rfl),k.cell (cell_of hC' rfl),k.cell (cell_of hC' rfl)⟩:∀W,_)
 have HCS:Hid (C<w.heap.size/\G.length<=50):=(⟨hCs,hn⟩:_/\_)
 have nI:(G.length:Int)<=50:=by omega
 clear hC hC' hCs;go_enter Tryz.func86,Tryz.ntmps86;go_upto_region 2 with(go_at_call 21;refine HCL.mono ?_;rintro e w3 ⟨v,rfl,hO,k3⟩;obtain⟨ad,cap,rfl⟩:=own_shape hO;obtain⟨c0,c1,c2⟩:=(uh HC0) w3 k3;have HO:Hid (OwG w.heap.size w3 (.slice ad G.length cap) G/\Kb 0 w w3):=(⟨hO,k3⟩:_/\_);clear hO k3 HCL c7);obtain⟨m,g,hL⟩:=(uh HLP)
 have hO:=(uh HO)
 obtain⟨q,rfl,hcap,hq2⟩:∃q,ad=some ⟨q,0,none⟩/\m+1<=cap/\w.heap.size<=q:=by
  rcases hO.1.2 with⟨e,e'⟩|⟨q,c',cur,e,h1',h2',h3',_⟩
  ·rw[hL.1]at e';omega
  ·obtain⟨rfl,rfl⟩:ad=some ⟨q,0,none⟩/\cap=c':=by simpa using e
   exact⟨q,rfl,by rw[hL.1]at h3';exact h3',h1'⟩
 have hcs:∀j x,G[j]? =some x->∀t,t<3->w3.cell? ⟨q,j*3+t,none⟩=(gcl x)[t]?:=λj x hx t ht=>by
  have e:=gcl_at G j x hx t ht;have hj:=(List.getElem?_eq_some_iff.1 hx).1;have:=World.ownsRow.cellAt hO.1 (j*3+t) (by omega);rw[this,e]
 obtain⟨b,hbq⟩:∃b:Addr,b=⟨q,0,none⟩:=⟨_,rfl⟩
 have hfz:∀j,w3.frozen? ⟨q,j,none⟩=false:=λj=>World.ownsRow.frozenAt hO.1 j;rw[<-hbq];rw[hL.1];have cI:(m:Int)+1<=(cap:Int):=by omega
 have mI:(m:Int)+1<=50:=by have:=(uh HCS).2;have:=hL.1;omega
 have e0:b.add (m*3)=⟨q,m*3,none⟩:=by rw[hbq,addr0]
 have d1:w3.cell? ⟨(b.add (m*3)).block,(b.add (m*3)).off+1,none⟩=some (.int .i64 g.2.1):=by rw[e0];exact hcs m g hL.2.1 1 (by omega)
 have f1:w3.frozen? ⟨(b.add (m*3)).block,(b.add (m*3)).off+1,none⟩=false:=by rw[e0];exact hfz _
 have HZ:Hid (GbA a G w (.returned (.slice (some b) (m+1) cap)) (w3.setCell ⟨(b.add (m*3)).block,(b.add (m*3)).off+1,none⟩ (.int .i64 a.a))):=by
  rw[e0];have eG:=(uh HB) g hL.2.2.2.2.2.2;have eL:(gbh a G).length=m+1:=by rw[eG,List.length_append,hL.2.2.2.2.2.1];rfl
  refine⟨_,rfl,?_,hO.2.setCell _ (Or.inr (by show w.heap.size<=q;exact hq2)) _⟩;refine⟨some b,cap,by rw[eL],by rw[eL];exact hcap,λ_=>⟨b,rfl,by rw[hbq];exact hq2,λj x hx=>?_⟩⟩;have hj:j<m+1:=by have:=(List.getElem?_eq_some_iff.1 hx).1;omega
  rw[hbq,addr0];by_cases ej:j=m
  ·subst ej;rw[eG,List.getElem?_append_right (by rw[hL.2.2.2.2.2.1];exact Nat.le_refl _),hL.2.2.2.2.2.1,Nat.sub_self]at hx;have ex:(g.1,a.a,g.2.2)=x:=by simpa using hx
   subst ex;exact⟨(set_ne _ q (j*3+1) (j*3) _ (by omega)).trans (hcs j g hL.2.1 0 (by omega)),set_eq _ _ _ _ _ (hcs j g hL.2.1 1 (by omega)),(set_ne _ q (j*3+1) (j*3+2) _ (by omega)).trans (hcs j g hL.2.1 2 (by omega))⟩
  ·rw[eG,List.getElem?_append_left (by rw[hL.2.2.2.2.2.1];omega)]at hx;have hx2:G[j]? =some x:=by rw[hL.2.2.2.2.1,List.getElem?_append_left (by rw[hL.2.2.2.2.2.1];omega)];exact hx
   exact⟨(set_ne _ q (m*3+1) (j*3) _ (by omega)).trans (hcs j x hx2 0 (by omega)),(set_ne _ q (m*3+1) (j*3+1) _ (by omega)).trans (hcs j x hx2 1 (by omega)),(set_ne _ q (m*3+1) (j*3+2) _ (by omega)).trans (hcs j x hx2 2 (by omega))⟩
 clear hL hO hcap hq2 hcs hbq hfz HO HC0 HCS HLP HB h hn nI e0;go_wp2_with fail;refine bodyPost_ret (by simp[results,Tryz.results86,go_sem];rfl) rfl ?_;exact HZ
theorem im_gbh(w:World)(hC:ChB C a vt vg v8 v9 w)(r:Rg av w vg G)(hn:G.length<=50)(hf:gfit a G):
  Calls Tryz.prog 86 #[.pointer (some ⟨C,0,none⟩)] w (GbA a G w):=by
 by_cases h:a.o=31
 ·exact gb_31 w hC r hn hf h
 have n31:=h;clear h;by_cases h:a.o=33
 ·exact gb_33 w hC r hn hf h
 have n33:=h;clear h;by_cases h:a.o=34
 ·exact gb_34 w hC r hn hf h
 have n34:=h;clear h;by_cases h:a.o=32
 ·exact gb_32 w hC r hn hf h
 have n32:=h;clear h;by_cases h:a.o=36
 ·exact gb_36 w hC r hn hf h
 have n36:=h;clear h;exact gb_oth w hC r hn hf ⟨n31,n33,n34,n32,n36⟩
theorem im_below(x K:Int)(B:Nat)(w:World)(hB:w.cell? ⟨B,0,none⟩=some (.int .i64 K)):Calls Tryz.prog 124 #[.int .i64 x,.pointer (some ⟨B,0,none⟩)] w λe w'=>e=.returned (.bool (dc (x<K)))/\w'=w:=by
 obtain⟨R,hR⟩:∃R,R=dc (x<K):=⟨_,rfl⟩
 rw[<-hR];by_cases c:x<K
 ·rw[dc_t c]at hR;subst hR;go_enter Tryz.func124,Tryz.ntmps124;go_wp2_with fail;go_ret;exact⟨by first|rfl|simp[c],rfl⟩
 ·rw[dc_f c]at hR;subst hR;go_enter Tryz.func124,Tryz.ntmps124;go_wp2_with fail;go_ret;exact⟨by first|rfl|simp[c]|(simp;omega),rfl⟩
theorem en_below:∀args w,(callFunc 124 args).run Tryz.prog w=.ok (.enter 124 args) w:=enters_of Tryz.func124 (by kernel_rfl) rfl
theorem im_ixbelow(K:Int)(B:Nat)(w:World)(h1:Rz av w va T)(hn:T.length<=1000)(hB:w.cell? ⟨B,0,none⟩=some (.int .i64 K)):
  Calls Tryz.prog 142 #[va,.func (.func 124) #[] #[.pointer (some ⟨B,0,none⟩)]] w λe w'=>∃r:Int,e=.returned (.int .i64 r)/\(0<=r↔∃x,x ∈ T/\x<K)/\w'=w:=by
 obtain⟨pa,ca,rfl,-,a1⟩:=h1;have HA:Hid (0<T.length->∃a:Addr,pa=some a/\av a.block/\∀j x,T[j]? =some x->w.cell? (a.add j)=some (.int .i64 x)):=a1;have n1:(T.length:Int)<=1000:=by omega
 have eg:=en_below;have HCB:Hid (∀x,Calls Tryz.prog 124 #[.int .i64 x,.pointer (some ⟨B,0,none⟩)] w λe w'=>e=.returned (.bool (dc (x<K)))/\w'=w):=(λx=>im_below x K B w hB:∀x,_)
 clear a1 hn hB;go_enter Tryz.func142,Tryz.ntmps142;go_wp2_with fail
 go_loopw [8] (λsl wr=>∃i:Nat,sl=.int .i64 i/\i<=T.length/\wr=w/\Hid (∀j x,j<i->T[j]? =some x->K<=x)) (λsl _=>T.length-(intOf sl).toNat)
 case atStart=>exact⟨0,rfl,Nat.zero_le _,rfl,(λj x h=>by omega:∀j x,_)⟩
 case round=>
  obtain⟨i,rfl,hi,rfl,HX⟩:=hrel
  rename World=>w
  have hX:=(uh HX)
  clear HX;rcases Nat.lt_or_ge i T.length with h|h
  ·have hI:(i:Int)<(T.length:Int):=by omega
   obtain⟨a,rfl,-,ra⟩:=(uh HA) (by omega)
   obtain⟨p,hp⟩:∃p,T[i]? =some p:=⟨_,List.getElem?_eq_getElem h⟩
   have s1:=ra i p hp;have hcall:=(uh HCB) p;by_cases e:p<K
   ·rw[dc_t e]at hcall;have HZ:Hid (0<=(i:Int)↔∃x,x ∈ T/\x<K):=(⟨λ_=>⟨p,List.mem_of_getElem? hp,e⟩,λ_=>by omega⟩:_↔_)
    clear hX ra hp e HA HCB;go_wp2_with (go_at_fn 124;refine hcall.mono ?_;rintro e w' ⟨rfl,hw'⟩;rw[hw'];clear hw' w' hcall);go_ret;exact⟨_,rfl,HZ,rfl⟩
   ·rw[dc_f e]at hcall
    have HN:Hid (∀j x,j<i+1->T[j]? =some x->K<=x):=(λj x hj hx=>by
     by_cases ej:j=i
     ·subst ej;rw[hp]at hx;cases hx;omega
     ·exact hX j x (by omega) hx:∀j x,_)
    clear hX ra hp e HA;go_wp2_with (go_at_fn 124;refine hcall.mono ?_;rintro e w' ⟨rfl,hw'⟩;rw[hw'];clear hw' w' hcall);go_roundw
    case rel=>exact⟨i+1,by go_num,by omega,by simp,HN⟩
    case measure=>simp[intOf];omega
  ·have hI:¬(i:Int)<(T.length:Int):=by omega
   have HZ:Hid (0<=(-1:Int)↔∃x,x ∈ T/\x<K):=(⟨λq=>by omega,λ⟨x,q1,q2⟩=>by
    obtain⟨j,hj⟩:=List.getElem?_of_mem q1
    have:=hX j x (by have:=(List.getElem?_eq_some_iff.1 hj).1;omega) hj;omega⟩:_↔_)
   clear hX HA HCB;go_wp2_with fail;go_ret;exact⟨_,rfl,HZ,rfl⟩
theorem im_ctbelow(K:Int)(B:Nat)(w:World)(h1:Rz av w va T)(hn:T.length<=1000)(hB:w.cell? ⟨B,0,none⟩=some (.int .i64 K)):
  Calls Tryz.prog 123 #[va,.func (.func 124) #[] #[.pointer (some ⟨B,0,none⟩)]] w λe w'=>e=.returned (.bool (dc (∃x,x ∈ T/\x<K)))/\w'=w:=by
 have HI:=im_ixbelow K B w h1 hn hB;obtain⟨pa,ca,rfl,-,-⟩:=h1;obtain⟨R,hR⟩:∃R,R=dc (∃x,x ∈ T/\x<K):=⟨_,rfl⟩
 rw[<-hR];clear hn hB;go_enter Tryz.func123,Tryz.ntmps123;go_wp2_with fail;refine HI.mono ?_;rintro e w2 ⟨r,rfl,hr,rfl⟩;by_cases c:∃x,x ∈ T/\x<K
 ·have g:=hr.2 c;rw[dc_t c]at hR;subst hR;clear hr HI c;go_wp2_with fail;go_ret;exact⟨by first|rfl|simp|simp[g],rfl⟩
 ·have g:¬0<=r:=λq=>c (hr.1 q);rw[dc_f c]at hR;subst hR;clear hr HI c;go_wp2_with fail;go_ret;exact⟨by first|rfl|(simp;omega),rfl⟩
theorem rz_take{W:World}{pv:Option Addr}{n cv:Nat}(h:Rz av W (.slice pv n cv) T)(hk:k<=T.length):Rz av W (.slice pv k cv) (T.take k):=by
 obtain⟨p',c',e,h0,h2⟩:=h;obtain⟨rfl,e2,rfl⟩:=Value.slice.inj e;have hl:(T.take k).length=k:=by rw[List.length_take];omega
 refine⟨pv,cv,by rw[hl],by omega,λhp=>?_⟩;obtain⟨a,e1,e3,e4⟩:=h2 (by omega);exact⟨a,e1,e3,λj x hx=>e4 j x (by rw[List.getElem?_take]at hx;split at hx;exact hx;cases hx)⟩
