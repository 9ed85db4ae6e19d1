import Derived.Test.YtamcnmnaadpfoaaFZaa
import Derived.Test.YtamcnmnaadpfoaaFPaf
import Derived.Test.YtamcnmnaadpfoaaFGdf
import Derived.Lib.SlBytesConst
set_option maxHeartbeats 16000000
namespace Go.Proofs.Ytamcnmnaadpfoaa.Fo
open Go.ChangeShapes Go.WideShapes Go.ChangeAt Go.RowKit
set_option linter.unusedVariables false
set_option maxRecDepth 100000
theorem im_sumof {va : Value} {n : Nat} {A : Nat → Int} (w : World) (ha : RowV w va n (fun i => .int .u8 (A i))) (hn : n ≤ 1048576) (hA : ∀ i, i < n → 0 ≤ A i ∧ A i ≤ 255) :
  Calls Try.prog 64 #[va] w fun e w'=>e = .returned (.int .i64 (sgz A n))∧Kb 0 w w':=by
 obtain ⟨pa,ca,rfl,ha2⟩:=ha
 have HA:Hid ((0 < n→∃ a:Addr,pa=some a∧n≤ca∧∀ i,i < n→w.cell? (a.add i)=some (.int .u8 (A i)))∧∀ i,i < n→0≤A i∧A i≤255):=(⟨ha2,hA⟩:_∧_)
 have hnI:(n:Int)≤1048576:=by omega
 clear ha2 hn hA
 go_enter Try.func64,Try.ntmps64
 go_wp2_with fail
 go_loopw [3,8] (fun s3 s8 wr=>∃ i:Nat,s3 = .int .u64 (smz A i)∧s8 = .int .i64 (i:Int)∧i≤n∧wr=w) (fun _ s8 _=>n - (intOf s8).toNat)
 case atStart=>exact ⟨0,rfl,rfl,Nat.zero_le _,rfl⟩
 case round =>
  obtain ⟨i,rfl,rfl,hin,rfl⟩:=hrel
  rcases Nat.lt_or_ge i n with hi | hi
  ·obtain ⟨hA1,hA2⟩:=(show (0 < n→_)∧∀ i,i < n→0≤A i∧A i≤255 from HA)
   obtain ⟨a,rfl,hca,hra⟩:=hA1 (by omega)
   have hiI:(i:Int) < (n:Int):=by omega
   have qa:=hra i hi
   obtain ⟨x0,x1⟩:=hA2 i hi
   clear hra HA hin hA1 hA2
   have hss:smz A (i+1)=sst (smz A i) (A i):=rfl
   obtain ⟨y,hy⟩:∃ y,y=A i:=⟨_,rfl⟩
   obtain ⟨h,hh⟩:∃ h,h=smz A i:=⟨_,rfl⟩
   rw [← hy] at qa x0 x1 hss
   rw [← hh] at hss
   rw [← hh]
   have HSS:Hid (smz A (i+1)=sst h y):=hss
   clear hy hh hss
   go_wp2_with fail
   go_roundw
   case rel=>exact ⟨i+1,by rw [show smz A (i+1)=sst h y from HSS];rfl,by go_num,by omega,trivial⟩
   case measure=>simp [intOf];omega
  ·obtain rfl:i=n:=by omega
   have hI:¬ (i:Int) < (i:Int):=by omega
   clear HA
   obtain ⟨h,hh⟩:∃ h,h=smz A i:=⟨_,rfl⟩
   have HH:Hid (sgz A i=wrap64 h):=(by rw [hh];rfl:sgz A i=wrap64 h)
   rw [← hh]
   clear hh
   go_wp2_with fail
   go_ret
   exact ⟨by rw [show sgz A i=wrap64 h from HH];rfl,Kb.refl _ _⟩
def sm64 (l:List Int):Nat:=(smz (fun i=>l.getD i 0) l.length).toNat
theorem smz_rg (A:Nat→Int):∀ i,0≤smz A i∧smz A i < 18446744073709551616
 | 0=>by show (0:Int)≤14695981039346656037∧(14695981039346656037:Int) < _;omega
 | i+1=>by
  show 0≤sst (smz A i) (A i)∧sst (smz A i) (A i) < _
  unfold sst
  rw [wrap_u64]
  omega
theorem sm64_int (l:List Int):(sm64 l:Int)=smz (fun i=>l.getD i 0) l.length:=by
 have:=smz_rg (fun i=>l.getD i 0) l.length
 unfold sm64
 omega
theorem sm64_lt (l:List Int):sm64 l < 18446744073709551616:=by
 have:=smz_rg (fun i=>l.getD i 0) l.length
 have:=sm64_int l
 omega
noncomputable def pbd (n:Nat) (F:Nat→Td) (a:Gv):List Int:=[72,49] ++ gbl (rnm (cO n F a) a) (cO n F a).length (cF n F a)
noncomputable def pfl (n:Nat) (F:Nat→Td) (a:Gv):List Int:=pbd n F a ++ eig (sm64 (pbd n F a)) 8
noncomputable def pck (n:Nat) (F:Nat→Td) (a:Gv):List Int:=if dc (Gok n F a∧(pfl n F a).length≤8192)=true then pfl n F a else []
theorem own_rowv {W:World} {B:Nat} {v:Value} {l:List Int} (h:W.ownsRow B 5 1 v l.length (bvs l)):RowV W v l.length (fun i=>.int .u8 (l.getD i 0)):=by
 obtain ⟨p,cap,hp⟩:=own_shape h
 refine ⟨p,cap,hp,fun hn=>?_⟩
 obtain ⟨g,cap',e,hB,hc,hcell⟩:=own_cells h hn
 rw [hp] at e
 injection e with e1 _ e3
 refine ⟨⟨g,0,none⟩,e1,by omega,fun i hi=>?_⟩
 rw [addr0,hcell i (by omega)]
 unfold bvs
 show _=some (Value.int .u8 (l.getD i 0))
 rw [List.getElem?_map,List.getD_eq_getElem?_getD,List.getElem?_eq_getElem hi]
 rfl
theorem bok_getD {l:List Int} (h:Bok l):∀ i,i < l.length→0≤l.getD i 0∧l.getD i 0≤255:=fun i hi=>by
 rw [List.getD_eq_getElem?_getD,List.getElem?_eq_getElem hi]
 exact h _ (List.getElem_mem hi)
theorem qr_cells2 (w:World) (c:Array Value) (t:TypeId) (m:Nat × Nat) (l:List Value) (hl:c.toList=l):∀ j u,l[j]? = some u→(w.alloc (.cells c t m)).cell? ((⟨w.heap.size,0,none⟩:Addr).add j)=some u:=by
 intro j u hj
 subst hl
 rw [addr0,World.cell?_alloc_mark]
 simpa using hj
theorem bok_nil:Bok []:=fun x hx=>by cases hx
structure Rg (n:Nat) (F:Nat→Td) (a:Gv):Prop where
 a0 : -9223372036854775808≤a.m∧a.m≤9223372036854775807
 f0:∀ i,i < n→∀ j,j < (F i).c → -9223372036854775808≤((F i).C j).m∧((F i).C j).m≤9223372036854775807
theorem vok_pok {n:Nat} {o:List Int} {v:Gv} (h:Vok n v) (hm : -9223372036854775808≤v.m∧v.m≤9223372036854775807) (ho:o.length≤600):Pok (rnm o v)∧(rnm o v).x.size≤1000000:=by
 have hx:v.x.size≤4000:=by
  rcases h with h | h | h | h
  ·rw [em0 h.2.2.1];omega
  ·rw [em0 h.2.1];omega
  ·exact h.2.2.2
  ·rw [em0 h.2.2.1];omega
 have hk:v.k=0∨v.k=1∨v.k=2∨v.k=3∨v.k=4:=by
  rcases h with h | h | h | h
  ·exact .inl h.1
  ·rcases h.1 with q | q
   ·exact .inr (.inl q)
   ·exact .inr (.inr (.inl q))
  ·exact .inr (.inr (.inr (.inl h.1)))
  ·exact .inr (.inr (.inr (.inr h.1)))
 have e1:(rnm o v).k=v.k:=by unfold rnm;split <;> rfl
 have e2:(rnm o v).m=v.m:=by unfold rnm;split <;> rfl
 have e3:=rnm_x o v
 refine ⟨⟨by rw [e1];exact hk,by rw [e2];exact hm.1,by rw [e2];exact hm.2,by rw [e3];omega,fun q=>?_⟩,by rw [e3];omega⟩
 rw [e1] at q
 unfold rnm
 rw [if_pos q]
 have:=List.idxOf_le_length (a:=v.r) (l:=o)
 show 0≤((o.idxOf v.r:Nat):Int)∧((o.idxOf v.r:Nat):Int)≤1000000000
 omega
theorem can_ok {n:Nat} {F:Nat→Td} {a:Gv} (h:Gok n F a) (hr:Rg n F a):(Pok (rnm (cO n F a) a)∧(rnm (cO n F a) a).x.size≤1000000)∧(cO n F a).length≤600∧∀ k,k < (cO n F a).length→Nop (cF n F a k):=by
 have hnl:=nl_cO (gok_lk h)
 have hl:=Nat.le_trans (nl_len _ _ hnl) h.1
 refine ⟨vok_pok h.2.1 hr.a0 hl,hl,fun k hk=>?_⟩
 have hx:=(nth_lt hnl hk).1
 obtain ⟨⟨t0,t1,c⟩,hv⟩:=h.2.2 _ hx
 exact ⟨t0,t1,c,fun j hj=>vok_pok (hv j hj) (hr.f0 _ hx j hj) hl⟩
theorem FE.ot {w:World} {n:Nat} {F:Nat→Td} {o:List Int} {vn:Value} {V:Nat→Value} {W:World} {wb:Nat} (h:FE w n F o vn V W) (hb:wb < w.heap.size):OT wb W vn o.length (cnF F o):=by
 obtain ⟨p,cap,hp⟩:=own_shape h.nn
 refine ⟨p,cap,hp,fun hn=>?_⟩
 obtain ⟨g,cap',cur,e,e2,hB,hlt,hcap,hcur,hcell⟩:=own_blk h.nn hn
 rw [hp] at e
 injection e with e3 _ e4
 refine ⟨g,cur,e3,by omega,by omega,hcur,fun k hk=>⟨V k,(hcell (k*2) (by omega)).trans (ncl_at F o V (t:=0) (by omega) hk),(hcell (k*2+1) (by omega)).trans (ncl_at F o V (t:=1) (by omega) hk),?_⟩⟩
 obtain ⟨p',cap2,hp'⟩:=own_shape (h.vs k hk)
 refine ⟨p',cap2,hp',fun hc=>?_⟩
 obtain ⟨g',cap3,cur',f1,f2,f3,f4,f5,f6,f7⟩:=own_blk (h.vs k hk) hc
 rw [hp'] at f1
 injection f1 with f1 _ f8
 exact ⟨g',cur',f1,by have:(F (nth o k)).c≤cap3:=f5;show (F (nth o k)).c≤cap2;omega,by omega,f6,fun j hj t ht=>(f7 (j*4+t) (by have:j < (F (nth o k)).c:=hj;omega)).trans (vcl_at o _ ht hj)⟩
theorem wrap64_back {s:Int} (h0 : 0≤s) (h1:s < 18446744073709551616):(wrap64 s) % 18446744073709551616=s:=by unfold wrap64;omega
theorem wrap64_rg (s:Int) : -9223372036854775808≤wrap64 s∧wrap64 s≤9223372036854775807:=by unfold wrap64;omega
theorem im_pack {a : Gv} {vn : Value} {n : Nat} {F : Nat → Td} (w : World) (ha : RowT 0 w vn n F) (hb : Bg n F a) (hrg : Rg n F a) :
  Calls Try.prog 34 #[grv a vn] w fun e w'=>∃ v,e = .returned v∧w'.ownsRow w.heap.size 5 1 v (pck n F a).length (bvs (pck n F a))∧Kb 0 w w':=by
 obtain ⟨pn,cn,rfl,ha2⟩:=id ha
 clear ha2
 obtain ⟨w2,hw2⟩:∃ w2,w2=w.alloc (.cells #[.int .i64 a.k,.int .i64 a.m,.string a.x,.int .i64 a.r,.slice pn n cn] 44):=⟨_,rfl⟩
 have k2:Kb 0 w w2:=by rw [hw2];exact kb_alloc _ _ _
 have z2:w2.heap.size=w.heap.size+1:=by rw [hw2];simp
 have b0:w2.heap[w.heap.size]? = some (.cells #[.int .i64 a.k,.int .i64 a.m,.string a.x,.int .i64 a.r,.slice pn n cn] 44 (0,0)):=by rw [hw2];exact alloc_new _ _ _
 have HW2:Hid (w2=w.alloc (.cells #[.int .i64 a.k,.int .i64 a.m,.string a.x,.int .i64 a.r,.slice pn n cn] 44)):=hw2
 have v0:w2.cell? ⟨w.heap.size,0,none⟩=some (.int .i64 a.k):=cell_of b0 rfl
 have v1:w2.cell? ⟨w.heap.size,1,none⟩=some (.int .i64 a.m):=cell_of b0 rfl
 have v2:w2.cell? ⟨w.heap.size,2,none⟩=some (.string a.x):=cell_of b0 rfl
 have v3:w2.cell? ⟨w.heap.size,3,none⟩=some (.int .i64 a.r):=cell_of b0 rfl
 have v4:w2.cell? ⟨w.heap.size,4,none⟩=some (.slice pn n cn):=cell_of b0 rfl
 have hg2:=im_gok w2 (ha.keep k2) hb
 have HGK:Hid (Calls Try.prog 59 #[.agg #[.int .i64 a.k,.int .i64 a.m,.string a.x,.int .i64 a.r,.slice pn n cn]] w2 fun e w'=>e = .returned (.bool (dc (Gok n F a)))∧Kb 0 w2 w'):=hg2
 have HB:Hid (Kb 0 w w2∧w2.heap.size=w.heap.size+1∧w2.heap[w.heap.size]? = some (.cells #[.int .i64 a.k,.int .i64 a.m,.string a.x,.int .i64 a.r,.slice pn n cn] 44 (0,0))∧RowT 0 w (.slice pn n cn) n F∧Bg n F a∧Rg n F a):=(⟨k2,z2,b0,ha,hb,hrg⟩:_∧_)
 obtain ⟨P,hP⟩:∃ P,P=pck n F a:=⟨_,rfl⟩
 rw [← hP]
 have HPP:Hid (P=pck n F a):=hP
 clear k2 z2 b0 hw2 ha hb hg2 hrg hP
 unfold grv
 go_enter Try.func34,Try.ntmps34
 go_upto_region 1 with fail
 rw [← (show w2 = _ from HW2)]
 clear HW2
 go_wp2_with fail
 refine (show Calls Try.prog 59 _ w2 _ from HGK).mono ?_
 rintro e w3 ⟨rfl,k3⟩
 clear HGK v0 v1 v2 v3 v4
 obtain ⟨k2,z2,b0,ha,hb,hrg⟩:=(show Kb 0 w w2∧w2.heap.size=w.heap.size+1∧w2.heap[w.heap.size]? = some (.cells #[.int .i64 a.k,.int .i64 a.m,.string a.x,.int .i64 a.r,.slice pn n cn] 44 (0,0))∧RowT 0 w (.slice pn n cn) n F∧Bg n F a∧Rg n F a from HB)
 have kw3:=k2.trans k3
 by_cases hG:Gok n F a
 case neg =>
  rw [dc_f hG]
  obtain rfl:P = []:=(show P = _ from HPP).trans (by unfold pck;rw [dc_f (fun q=>hG q.1)];rfl)
  have HK:Hid (Kb 0 w w3):=kw3
  clear HB HPP hG k2 z2 b0 ha hb hrg k3 kw3
  go_wp2_with fail
  go_ret
  exact ⟨_,rfl,World.ownsRow_nil _ _ _ _,HK⟩
 rw [dc_t hG]
 have g3:=(k3.block w.heap.size (Nat.zero_le _) (by omega)).trans b0
 have z3:=k3.size
 obtain ⟨w4,hw4⟩:∃ w4,w4=w3.alloc (.cells #[.slice none 0 0,.int .i64 8192,.bool false] 99):=⟨_,rfl⟩
 have k4:Kb 0 w3 w4:=by rw [hw4];exact kb_alloc _ _ _
 have z4:w4.heap.size=w3.heap.size+1:=by rw [hw4];simp
 have b4:w4.heap[w3.heap.size]? = some (.cells #[.slice none 0 0,.int .i64 8192,.bool false] 99 (0,0)):=by rw [hw4];exact alloc_new _ _ _
 obtain ⟨wb,hwb⟩:∃ wb,wb=w3.heap.size:=⟨_,rfl⟩
 rw [← hwb] at b4
 have hws:WS (wb+1) wb [] w4:=⟨by omega,by omega,bok_nil,_,_,_,[],b4,World.ownsRow_nil _ _ _ _,by simp,bok_nil,.inl ⟨rfl,rfl,by simp⟩⟩
 obtain ⟨w5,hw5⟩:∃ w5,w5=w4.alloc (.cells #[.int .u8 72,.int .u8 49] 5 (2,3)):=⟨_,rfl⟩
 have k5:Kb 0 w4 w5:=by rw [hw5];exact kb_alloc _ _ _
 have HP1:=im_put (c:=2) (ad:=⟨w4.heap.size,0,none⟩) [72,49] (hws.call k5) (by show w4.heap.size ≠ wb;omega) (by rw [hw5];exact qr_cells2 w4 #[.int .u8 72,.int .u8 49] 5 (2,3) _ rfl) (by simp) (fun x hx=>by simp at hx;omega)
 obtain ⟨o,ho⟩:∃ o,o=cO n F a:=⟨_,rfl⟩
 obtain ⟨R,hR⟩:∃ R,R=rnm o a:=⟨_,rfl⟩
 obtain ⟨c1,c2,c3⟩:=can_ok hG hrg
 have hcF:cF n F a=cnF F o:=by unfold cF;rw [ho]
 rw [← ho,← hR] at c1
 rw [← ho] at c2 c3
 rw [hcF] at c3
 obtain ⟨bd,hbd⟩:∃ bd,bd=pbd n F a:=⟨_,rfl⟩
 have hbd2:bd = [72,49] ++ gbl R o.length (cnF F o):=by rw [hbd];unfold pbd;rw [← ho,← hR,hcF]
 have hPk:P=if bd.length+8≤8192 then bd ++ eig (sm64 bd) 8 else []:=by
  rw [show P = _ from HPP]
  unfold pck pfl
  rw [← hbd]
  have hlen:(bd ++ eig (sm64 bd) 8).length=bd.length+8:=by rw [List.length_append,eig_len]
  by_cases q:bd.length+8≤8192
  ·rw [dc_t ⟨hG,by rw [hlen];exact q⟩,if_pos rfl,if_pos q]
  ·rw [dc_f (fun z=>q (by rw [← hlen];exact z.2)),if_neg q];rfl
 have HFM:Hid (∀ W,Kb 0 w3 W→Calls Try.prog 62 #[.agg #[.int .i64 a.k,.int .i64 a.m,.string a.x,.int .i64 a.r,.slice pn n cn]] W fun e w'=>∃ v V,e = .returned (.agg #[.int .i64 R.k,.int .i64 R.m,.string R.x,.int .i64 R.r,v])∧FE W n F o v V w'):=(fun W k=>(im_form W (ha.keep (kw3.trans k)) hb (gok_lk hG)).mono (fun e w' ⟨v,V,he,hf⟩=>⟨v,V,by rw [he,hR,ho];rfl,by rw [ho];exact hf⟩):∀ W,_)
 have HALL:Hid (Kb 0 w w3∧Kb 0 w3 w4∧Kb 0 w4 w5∧w3.heap[w.heap.size]? = some (.cells #[.int .i64 a.k,.int .i64 a.m,.string a.x,.int .i64 a.r,.slice pn n cn] 44 (0,0))∧wb=w3.heap.size∧w.heap.size < w3.heap.size∧w4.heap.size=w3.heap.size+1∧(Pok R∧R.x.size≤1000000)∧o.length≤600∧(∀ k,k < o.length→Nop (cnF F o k))∧bd = [72,49] ++ gbl R o.length (cnF F o)∧P=if bd.length+8≤8192 then bd ++ eig (sm64 bd) 8 else []):=(⟨kw3,k4,k5,g3,hwb,by omega,z4,c1,c2,c3,hbd2,hPk⟩:_∧_)
 have HW4:Hid (w4=w3.alloc (.cells #[.slice none 0 0,.int .i64 8192,.bool false] 99)):=hw4
 have hcv:=Lib.run_convert_bytes_const (P:=Try.prog) w4 22 5 #[.int .u8 72,.int .u8 49] 2 2 Try.underlying22 Try.underlying5
 have HW5:Hid (w5=w4.alloc (.cells #[.int .u8 72,.int .u8 49] 5 (2,3))):=hw5
 clear HB HPP hG k2 z2 b0 ha hb hrg k3 kw3 g3 z3 hw4 k4 z4 b4 hws hw5 k5 ho hR c1 c2 c3 hcF hbd hbd2 hPk
 go_upto_region 4 with fail
 rw [← (show w4 = _ from HW4),← hwb]
 clear HW4 hwb
 go_wp2_with fail
 rw [← (show w5 = _ from HW5)]
 clear HW5 hcv
 refine HP1.mono ?_
 rintro e w6 ⟨rfl,y1,y2⟩
 clear HP1
 obtain ⟨kw3,k4,k5,g3,hwb,hwl,z4,c1,c2,c3,hbd,hPk⟩:=(show Kb 0 w w3∧Kb 0 w3 w4∧Kb 0 w4 w5∧w3.heap[w.heap.size]? = some (.cells #[.int .i64 a.k,.int .i64 a.m,.string a.x,.int .i64 a.r,.slice pn n cn] 44 (0,0))∧wb=w3.heap.size∧w.heap.size < w3.heap.size∧w4.heap.size=w3.heap.size+1∧(Pok R∧R.x.size≤1000000)∧o.length≤600∧(∀ k,k < o.length→Nop (cnF F o k))∧bd = [72,49] ++ gbl R o.length (cnF F o)∧P=if bd.length+8≤8192 then bd ++ eig (sm64 bd) 8 else [] from HALL)
 have k35:=k4.trans k5
 have g5:=(k35.block w.heap.size (Nat.zero_le _) (by omega)).trans g3
 have g6:=y2.cells g5 (by decide) (by omega)
 have kw36:Kb 0 w3 w6:=y2.kb k35 (by omega) (by omega)
 have v0:w6.cell? ⟨w.heap.size,0,none⟩=some (.int .i64 a.k):=cell_of g6 rfl
 have v1:w6.cell? ⟨w.heap.size,1,none⟩=some (.int .i64 a.m):=cell_of g6 rfl
 have v2:w6.cell? ⟨w.heap.size,2,none⟩=some (.string a.x):=cell_of g6 rfl
 have v3:w6.cell? ⟨w.heap.size,3,none⟩=some (.int .i64 a.r):=cell_of g6 rfl
 have v4:w6.cell? ⟨w.heap.size,4,none⟩=some (.slice pn n cn):=cell_of g6 rfl
 have HF6:=(show ∀ W,Kb 0 w3 W→_ from HFM) w6 kw36
 have H6:Hid (WS (wb+1) wb [72,49] w6∧Kb 0 w3 w6):=(⟨y1,kw36⟩:_∧_)
 clear y1 y2 HFM kw3 k4 k5 g3 hwb hwl z4 c1 c2 c3 hbd hPk k35 g5 g6 kw36
 go_wp2_with fail
 refine HF6.mono ?_
 rintro e w7 ⟨v,V,rfl,hFE⟩
 clear HF6 v0 v1 v2 v3 v4
 obtain ⟨kw3,k4,k5,g3,hwb,hwl,z4,c1,c2,c3,hbd,hPk⟩:=(show Kb 0 w w3∧Kb 0 w3 w4∧Kb 0 w4 w5∧w3.heap[w.heap.size]? = some (.cells #[.int .i64 a.k,.int .i64 a.m,.string a.x,.int .i64 a.r,.slice pn n cn] 44 (0,0))∧wb=w3.heap.size∧w.heap.size < w3.heap.size∧w4.heap.size=w3.heap.size+1∧(Pok R∧R.x.size≤1000000)∧o.length≤600∧(∀ k,k < o.length→Nop (cnF F o k))∧bd = [72,49] ++ gbl R o.length (cnF F o)∧P=if bd.length+8≤8192 then bd ++ eig (sm64 bd) 8 else [] from HALL)
 obtain ⟨y1,kw36⟩:=(show WS (wb+1) wb [72,49] w6∧Kb 0 w3 w6 from H6)
 have hwb6:wb < w6.heap.size:=Nat.lt_of_lt_of_le y1.1 y1.2.1
 have hot:=hFE.ot hwb6
 have HG7:=im_wgraph (y1.call hFE.kb) hot c1 c3 c2
 rw [← hbd] at HG7
 have H7:Hid (Kb 0 w3 w7):=kw36.trans hFE.kb
 obtain ⟨pv,cv,rfl⟩:=own_shape hFE.nn
 clear H6 kw3 k4 k5 g3 hwb hwl z4 c1 c2 c3 hbd hPk y1 kw36 hwb6 hot hFE
 go_wp2_with fail
 refine HG7.mono ?_
 rintro e w8 ⟨rfl,y1,y2⟩
 clear HG7
 obtain ⟨kw3,k4,k5,g3,hwb,hwl,z4,c1,c2,c3,hbd,hPk⟩:=(show Kb 0 w w3∧Kb 0 w3 w4∧Kb 0 w4 w5∧w3.heap[w.heap.size]? = some (.cells #[.int .i64 a.k,.int .i64 a.m,.string a.x,.int .i64 a.r,.slice pn n cn] 44 (0,0))∧wb=w3.heap.size∧w.heap.size < w3.heap.size∧w4.heap.size=w3.heap.size+1∧(Pok R∧R.x.size≤1000000)∧o.length≤600∧(∀ k,k < o.length→Nop (cnF F o k))∧bd = [72,49] ++ gbl R o.length (cnF F o)∧P=if bd.length+8≤8192 then bd ++ eig (sm64 bd) 8 else [] from HALL)
 have kw38:Kb 0 w3 w8:=y2.kb (show Kb 0 w3 w7 from H7) (by omega) (by omega)
 have y1':=y1
 obtain ⟨h0,hB,hbk,im,lf,lo,l1,h2,h3,h4,h5,h6⟩:=y1
 have i0:w8.cell? ⟨wb,0,none⟩=some im:=cell_of h2 rfl
 have hrv:=own_rowv h3
 have HS:=im_sumof w8 hrv (by omega) (bok_getD h5)
 obtain ⟨s,hs⟩:∃ s,s=sgz (fun i=>l1.getD i 0) l1.length:=⟨_,rfl⟩
 rw [← hs] at HS
 have hsr:(-9223372036854775808≤s∧s≤9223372036854775807)∧(s % 18446744073709551616).toNat=sm64 l1:=by
  have q:=smz_rg (fun i=>l1.getD i 0) l1.length
  have e:s=wrap64 (smz (fun i=>l1.getD i 0) l1.length):=hs
  rw [e]
  exact ⟨wrap64_rg _,by rw [wrap64_back q.1 q.2];rfl⟩
 have H8:Hid (WS (wb+1) wb bd w8∧Kb 0 w3 w8∧((-9223372036854775808≤s∧s≤9223372036854775807)∧(s % 18446744073709551616).toNat=sm64 l1)∧(bd.length≤8192→l1=bd)):=(⟨y1',kw38,hsr,fun q=>by
  rcases h6 with ⟨_,e,_⟩ | ⟨_,e⟩
  ·exact e
  ·omega⟩:_∧_)
 obtain ⟨pi,ci,rfl⟩:=own_shape h3
 clear H7 kw3 k4 k5 g3 hwb hwl z4 c1 c2 c3 hbd hPk y1' y2 kw38 h0 hB hbk h2 h3 h4 h5 h6 hrv hs hsr
 go_wp2_with fail
 refine HS.mono ?_
 rintro e w9 ⟨rfl,k9⟩
 clear HS i0
 obtain ⟨y1,kw38,hsr,hll⟩:=(show WS (wb+1) wb bd w8∧Kb 0 w3 w8∧((-9223372036854775808≤s∧s≤9223372036854775807)∧(s % 18446744073709551616).toNat=sm64 l1)∧(bd.length≤8192→l1=bd) from H8)
 have HE:=im_eight s hsr.1.1 hsr.1.2 (y1.call k9)
 rw [hsr.2] at HE
 have H9:Hid (Kb 0 w3 w9∧(bd.length≤8192→l1=bd)):=(⟨kw38.trans k9,hll⟩:_∧_)
 clear H8 y1 kw38 hsr hll k9
 go_wp2_with fail
 refine HE.mono ?_
 rintro e wx ⟨rfl,y1,y2⟩
 clear HE
 obtain ⟨kw3,k4,k5,g3,hwb,hwl,z4,c1,c2,c3,hbd,hPk⟩:=(show Kb 0 w w3∧Kb 0 w3 w4∧Kb 0 w4 w5∧w3.heap[w.heap.size]? = some (.cells #[.int .i64 a.k,.int .i64 a.m,.string a.x,.int .i64 a.r,.slice pn n cn] 44 (0,0))∧wb=w3.heap.size∧w.heap.size < w3.heap.size∧w4.heap.size=w3.heap.size+1∧(Pok R∧R.x.size≤1000000)∧o.length≤600∧(∀ k,k < o.length→Nop (cnF F o k))∧bd = [72,49] ++ gbl R o.length (cnF F o)∧P=if bd.length+8≤8192 then bd ++ eig (sm64 bd) 8 else [] from HALL)
 obtain ⟨kw39,hll⟩:=(show Kb 0 w3 w9∧(bd.length≤8192→l1=bd) from H9)
 have kwx:Kb 0 w wx:=kw3.trans (y2.kb kw39 (by omega) (by omega))
 obtain ⟨h0,hB,hbk,im,lf,lo,l2,h2,h3,h4,h5,h6⟩:=y1
 have j0:wx.cell? ⟨wb,0,none⟩=some im:=cell_of h2 rfl
 have j2:wx.cell? ⟨wb,2,none⟩=some (.bool lo):=cell_of h2 rfl
 have hlen:(bd ++ eig (sm64 l1) 8).length=bd.length+8:=by rw [List.length_append,eig_len]
 rcases h6 with ⟨rfl,e,_⟩ | ⟨rfl,e⟩
 ·have hl2:l2.length=bd.length+8:=by rw [e,hlen]
  have hPe:P=l2:=by rw [hPk,if_pos (by omega),e,hll (by omega)]
  have HN:Hid (wx.ownsRow w.heap.size 5 1 im P.length (bvs P)∧Kb 0 w wx):=(⟨by rw [hPe];exact own_base h3 (by omega),kwx⟩:_∧_)
  obtain ⟨pi,ci,rfl⟩:=own_shape h3
  clear H9 HALL kw3 k4 k5 g3 hwb hwl z4 c1 c2 c3 hbd hPk y2 kw39 kwx hll h0 hB hbk h2 h3 h4 h5 e hlen hl2 hPe
  go_wp2_with fail
  go_ret
  exact ⟨_,rfl,HN⟩
 ·obtain rfl:P = []:=by rw [hPk,if_neg (by omega)]
  have HN:Hid (Kb 0 w wx):=kwx
  clear H9 HALL kw3 k4 k5 g3 hwb hwl z4 c1 c2 c3 hbd hPk y2 kw39 kwx hll h0 hB hbk h2 h3 h4 h5 e hlen
  go_wp2_with fail
  go_ret
  exact ⟨_,rfl,World.ownsRow_nil _ _ _ _,HN⟩
structure S5E (w W:World) (A:Gv) (v:Value) (m:Nat) (Fc:Nat→Td):Prop where
 b:(s5 W (w.heap.size+1) A.k A.m A.x A.r v).heap[w.heap.size+1]? = some (.cells #[.int .i64 A.k,.int .i64 A.m,.string A.x,.int .i64 A.r,v] 44 (0,0))
 r:RowT w.heap.size (s5 W (w.heap.size+1) A.k A.m A.x A.r v) v m Fc
 k:Kb 0 w (s5 W (w.heap.size+1) A.k A.m A.x A.r v)
end Go.Proofs.Ytamcnmnaadpfoaa.Fo
