import Derived.Test.YtkhdehngobkkfaaGreatDoorASpla
import Derived.Test.YtkhdehngobkkfaaGreatDoorAZsm
import Derived.Test.YtkhdehngobkkfaaGreatDoorCards
import Derived.Test.YtkhdehngobkkfaaGreatDoorTie
import Derived.Deep.DeepHandedRow
import Derived.Lib.LaidTab
import Derived.Stop.LaidErr
import Derived.Stop.ErrReads
import Derived.OpenVars
set_option maxRecDepth 100000
set_option maxHeartbeats 8000000
namespace Go.Proofs.YtkhdehngobkkfaaGreatDoor.Fo
open Go.ChangeShapes Go.WideShapes Go.ChangeAt Go.RowKit
set_option linter.unusedVariables false
variable {w W:World}{V:Nat->Value}{i n:Nat}{v:Value}{F:Nat->Gv}
theorem infoIs:(Tryz.prog.info? 42).map (λi=>(i.zero,i.size,i.bytes))=some (some (.slice none 0 0),1,24):=by kernel_rfl
def kcs (V:Nat->Value):Nat->List Value
 |0=>[]
 |i+1=>kcs V i++[V i]
theorem kcs_len(V:Nat->Value)(i:Nat):(kcs V i).length=i:=by
 induction i with
 |zero=>rfl
 |succ i ih=>simp[kcs,ih]
theorem kcs_at(V:Nat->Value)(n i:Nat)(hi:i<n):(kcs V n)[i]? =some (V i):=by
 induction n with
 |zero=>omega
 |succ n ih=>
  show(kcs V n++_)[i]? =_;rcases Nat.lt_or_ge i n with h|h
  ·rw[List.getElem?_append_left (by rw[kcs_len];omega)];exact ih h
  ·have e:i=n:=by omega
   subst e;rw[List.getElem?_append_right (by rw[kcs_len];omega),kcs_len]
   simp
structure Kg (w:World) (V:Nat->Value) (i:Nat) (v:Value) (W:World):Prop where
 bl:Below w.heap.size w W
 row:W.ownsRow w.heap.size 42 1 v i (kcs V i)
theorem Kg.shape(h:Kg w V i v W):∃(ad:Option Addr) (cap:Nat),v=.slice ad i cap:=by
 rcases h.row.2 with⟨rfl,e⟩|⟨g,cap,cur,rfl,_⟩
 ·exact⟨none,0,by rw[e]⟩
 ·exact⟨_,cap,rfl⟩
theorem Kg.step{v':Value}{W1 w2:World}(h:Kg w V i v W)(hb:Below W.heap.size W W1)(ho:w2.ownsRow w.heap.size 42 1 v' (i+1) (kcs V i++[V i]))(hg:W1.grownBy w2 v.ownBlock):Kg w V (i+1) v' w2:=by
 have h1:=h.bl.trans (hb.mono h.bl.size);have hs:=hg.size;have hz:=h1.size;have hne:∀k,k<w.heap.size->some k≠v.ownBlock:=λk hk e2=>by have:=(h.row.lt k e2.symm).1;omega
 exact⟨⟨hg.os.trans h1.os,hg.tape.trans h1.tape,hg.output.trans h1.output,by omega,λk hk=>(hg.block k (by omega) (hne k hk)).trans (h1.block k hk)⟩,ho⟩
theorem Kg.rows(h:Kg w V n v W):RowV W v n V:=by
 rcases h.row.2 with⟨rfl,e⟩|⟨g,cap,cur,rfl,hg,hcur,hc1,_,hsz,hx⟩
 ·exact⟨none,0,by rw[e],λh=>by omega⟩
 ·refine⟨_,cap,rfl,λ_=>⟨_,rfl,hc1,λi hi=>?_⟩⟩;have ea:(⟨g,0,none⟩:Addr).add i=⟨g,i,none⟩:=by unfold Addr.add;split<;>simp_all
  rw[ea,<-kcs_at V n i hi,<-hx,List.getElem?_take_of_lt (by omega)];simp[World.cell?,hcur]
theorem im_kidrows(w:World)(hf:RowF w v n F)(hn:n<=3000):
  Calls Tryz.prog 53 #[v] w λe w'=>∃(u:Value) (PK:Nat->Option Addr) (CK:Nat->Nat),e=.returned u/\RowV w' u n (λi=>.slice (PK i) (F i).q (CK i))/\(∀i,i<n->RowV w' (.slice (PK i) (F i).q (CK i)) (F i).q (λj=>.int .i64 ((F i).K j)))/\Kz w w':=by
 obtain⟨PN,PK,CN,CK,hrx,hrk⟩:=hf.slots;obtain⟨pf,cf,rfl,hf2⟩:=hrx;have hnI:(n:Int)<=3000:=by omega
 obtain⟨V,hV⟩:∃V:Nat->Value,V=λi=>.slice (PK i) (F i).q (CK i):=⟨_,rfl⟩
 have HF:Hid (0<n->∃a:Addr,pf=some a/\n<=cf/\∀i,i<n->Cel9 w (a.add (i*9)) (F i).a (.slice (PN i) (F i).p (CN i)) (.slice (PK i) (F i).q (CK i))):=hf2;have HRK:Hid (∀i,i<n->RowV w (.slice (PK i) (F i).q (CK i)) (F i).q (λj=>.int .i64 ((F i).K j))):=hrk;have HVV:Hid (V=λi=>.slice (PK i) (F i).q (CK i)):=hV;clear hf2 hrk hV hf;obtain⟨i0,hi0,hz0,hz1,hz2⟩:=info_parts infoIs;have HI0:Hid (Tryz.prog.info? 42=some i0):=hi0;clear hi0;go_enter Tryz.func53,Tryz.ntmps53;go_wp2_with fail
 go_loopw [3,8] (λs3 s8 wr=>∃i:Nat,s8=.int .i64 i/\i<=n/\Hid (Kg w V i s3 wr)) (λ_ s8 _=>n-(intOf s8).toNat)
 case atStart=>exact⟨0,rfl,Nat.zero_le _,(⟨Below.refl _ _,World.ownsRow_nil _ _ _ _⟩:Kg w V 0 _ _)⟩
 case round=>
  obtain⟨i,rfl,hin,HG⟩:=hrel;have hg:=(uh HG)
  obtain⟨ad,cap,rfl⟩:=hg.shape;clear HG;rcases Nat.lt_or_ge i n with hi|hi
  case inr=>
   have hiI:¬(i:Int)<(n:Int):=by omega
   have e:i=n:=by omega
   have HX:Hid (RowV wr (.slice ad i cap) n (λi=>.slice (PK i) (F i).q (CK i))/\(∀i,i<n->RowV wr (.slice (PK i) (F i).q (CK i)) (F i).q (λj=>.int .i64 ((F i).K j)))/\Kz w wr):=by
    subst e;have hv:=hg.rows;rw[show V=_ from HVV]at hv;exact(⟨hv,λj hj=>((uh HRK) j hj).below hg.bl,Kz.of_below hg.bl⟩:_/\_/\_)
   clear hg e HI0 HRK HF HVV;go_wp2_with fail;go_ret;exact⟨_,rfl,PK,CK,HX.1,HX.2.1,HX.2.2⟩
  have hiI:(i:Int)<(n:Int):=by omega
  obtain⟨c,rfl,hcc,hc⟩:=(uh HF) (by omega)
  have hc9':=(hc i hi).below hg.bl;have hVi:V i=.slice (PK i) (F i).q (CK i):=congrFun HVV i
  have HSTP:Hid (∀(o1 o2:Obj) (v':Value) (w2:World),w2.ownsRow w.heap.size 42 1 v' (i+1) (kcs V i++[.slice (PK i) (F i).q (CK i)])->((wr.alloc o1).alloc o2).grownBy w2 (Value.slice ad i cap).ownBlock->Kg w V (i+1) v' w2):=(λo1 o2 v' w2 ho hgr=>by
   rw[<-hVi]at ho
   exact hg.step (bel2 _ _ _) ho hgr:∀(o1 o2:Obj) (v':Value) (w2:World),_)
  have howna:∀a b:Obj,((wr.alloc a).alloc b).ownsRow w.heap.size 42 1 (.slice ad i cap) i (kcs V i):=λa b=>(hg.row.alloc a).alloc b;obtain⟨e0,e1,e2,e3,e4,e5,e6,e7,e8⟩:=hc9'
  have hqc:∀(o:Obj) (j:Nat) (u:Value),([.slice (PK i) (F i).q (CK i)]:List Value)[j]? =some u->((wr.alloc o).alloc (.cells #[.slice (PK i) (F i).q (CK i)] 42)).cell? ((⟨wr.heap.size+1,0,none⟩:Addr).add j)=some u:=λo=>by
   have:=qr_cells (wr.alloc o) #[.slice (PK i) (F i).q (CK i)] 42 [.slice (PK i) (F i).q (CK i)] rfl
   simpa using this
  have h1c:∀u ∈ ([.slice (PK i) (F i).q (CK i)]:List Value),u.oneCell'=true:=by intro u hu;simp at hu;subst hu;rfl
  have hbs:w.heap.size<=wr.heap.size:=hg.bl.size;clear hg hc HRK HF HVV hVi;go_wp2_with (at_builtin;refine wpList_append_own _ rfl (.tmp 12) (.tmp 15) 84 rfl w.heap.size 42 i0 (.slice none 0 0) 1 24 Tryz.underlying84 HI0 hz0 hz1 hz2 rfl (by decide) _ _ _ rfl (howna _ _) ⟨wr.heap.size+1,0,none⟩ 1 1 [.slice (PK i) (F i).q (CK i)] rfl rfl (hqc _) h1c (by unfold maxLen;omega) (by omega) (by simp;omega) ?_;intro v' w2 hown1 hgrow1 _;obtain⟨g',cap',rfl,_,_⟩:=hown1.form (by omega);have HN:Hid (Kg w V (i+1) (.slice (some ⟨g',0,none⟩) (i+1) cap') w2):=(uh HSTP) _ _ _ _ hown1 hgrow1;clear HSTP hown1 hgrow1 howna hqc h1c e0 e1 e2 e3 e4 e5 e6 e7 e8);refine⟨⟨i+1,by go_num,by omega,HN⟩,?_⟩;simp only[intOf];omega
theorem Rs.kz{W':World}{h:Nat}(s:Rs W h v)(hb:Kz W W'):Rs W' h v:=by
 have l0:=lt_of_cell s.ct;have l1:=lt_of_cell s.r0;have b1:=hb.block (h+1) l1;exact⟨(hb.cell (p:=⟨h,0,none⟩) l0).trans s.ct,(World.cell?_of_block b1).trans s.r0,(World.cell?_of_block b1).trans s.r1,(World.frozen?_of_block b1).trans s.z0,(World.frozen?_of_block b1).trans s.z1⟩
theorem Rs.retz(s:Rs W w.heap.size v)(hb:Kz w W)(c f:Int):
  ((W.setCell ⟨w.heap.size+1,0,none⟩ (.int .i64 c)).setCell ⟨w.heap.size+1,1,none⟩ (.int .i64 f)).cell? ⟨w.heap.size+1,0,none⟩=some (.int .i64 c)/\((W.setCell ⟨w.heap.size+1,0,none⟩ (.int .i64 c)).setCell ⟨w.heap.size+1,1,none⟩ (.int .i64 f)).cell? ⟨w.heap.size+1,1,none⟩=some (.int .i64 f)/\Kz w ((W.setCell ⟨w.heap.size+1,0,none⟩ (.int .i64 c)).setCell ⟨w.heap.size+1,1,none⟩ (.int .i64 f)):=by
 refine⟨?_,?_,(hb.setNew _ (by show w.heap.size<=w.heap.size+1;omega) _).setNew _ (by show w.heap.size<=w.heap.size+1;omega) _⟩
 ·rw[set_ne _ _ _ _ _ (by omega)];exact set_eq _ _ _ _ _ s.r0
 ·exact set_eq _ _ _ _ _ (by rw[set_ne _ _ _ _ _ (by omega)];exact s.r1)
theorem kz_of{w':World}(h:w'.os=w.os/\w'.output=w.output/\w.heap.size<=w'.heap.size/\∀k,k<w.heap.size->w'.heap[k]? =w.heap[k]?):Kz w w':=⟨h.1,h.2.1,h.2.2.1,h.2.2.2⟩
theorem mis_kn(h:∀j,j<n->ndk nmp flp F j):Kn F n:=λi hi=>(h i hi).2.2.2.2.1
theorem im_sheet(w:World)(hg:Gd w)(hf:RowF w v n F)(hn:n<=1048576)(hp:∀i,i<n->(F i).p<=1048576)(hq:∀i,i<n->(F i).q<=1048576)(hm:∀i,i<n->-9223372036854775808<=(F i).a.m/\(F i).a.m<=9223372036854775807):
  Calls Tryz.prog 29 #[.agg #[v]] w λe w'=>∃c f,e=.returned (.agg #[.int .i64 c,.int .i64 f])/\Fl nmp flp F n c f/\Kz w w':=by
 have HE:Hid (∀W,Kz w W->Calls Tryz.prog 49 #[v] W λe w'=>e=.returned (.bool (dc (0<n/\n<=3000/\(F (n-1)).a.k=1)))/\Kz W w'):=(λW hz=>im_ends W (hf.kz hz) hn:∀W,_)
 have HM:Hid (∀W,Kz w W->Calls Tryz.prog 50 #[v] W λe w'=>∃r:Int,e=.returned (.int .i64 r)/\Mis F n r/\Kz W w'):=(λW hz=>im_misshapen W (hz.gd hg) (hf.kz hz) hn hp hq hm:∀W,_)
 have HD:Hid (∀W,Kz w W->0<n->n<=3000->Kn F n->Calls Tryz.prog 51 #[v] W λe w'=>(∃r:Int,e=.returned (.int .i64 r)/\Dis F n r)/\w'.os=W.os/\w'.output=W.output/\W.heap.size<=w'.heap.size/\∀k,k<W.heap.size->w'.heap[k]? =W.heap[k]?):=(λW hz h0 h1 hK=>im_disorder W (hf.kz hz) h0 h1 hK hq:∀W,_)
 have HT:Hid (∀W,Kz w W->n<=3000->Kn F n->Calls Tryz.prog 53 #[v] W λe w'=>∃u:Value,e=.returned u/\Kz W w'/\Calls Tryz.prog 52 #[u] w' λe w''=>(∃r:Int,e=.returned (.int .i64 r)/\Tdp (dpr F n n) n r)/\w''.os=w'.os/\w''.output=w'.output/\w'.heap.size<=w''.heap.size/\∀k,k<w'.heap.size->w''.heap[k]? =w'.heap[k]?):=(λW hz h1 hK=>(im_kidrows W (hf.kz hz) h1).mono λe w' h=>by obtain⟨u,PK,CK,he,hu,hk,hz2⟩:=h;exact⟨u,he,hz2,im_deep w' hu hk h1 hK hq⟩:∀W,_)
 obtain⟨pf,cf,rfl,_⟩:=hf;obtain⟨W2,hW2⟩:∃W2,W2=(w.alloc (.cells #[.slice pf n cf] 29)).alloc (.cells #[.int .i64 0,.int .i64 0] 35):=⟨_,rfl⟩
 have hs2:Rs W2 w.heap.size (.slice pf n cf):=by rw[hW2];exact Rs.new _ _ _ _
 have hb2:Kz w W2:=by rw[hW2];exact .of_below (bel2 _ _ _)
 have HS2:Hid (Rs W2 w.heap.size (.slice pf n cf)/\Kz w W2):=(⟨hs2,hb2⟩:_/\_)
 clear hg hn hp hq hm hs2 hb2;go_enter Tryz.func29,Tryz.ntmps29;go_wp2_with fail;rw[<-hW2];clear hW2;refine((uh HE) W2 HS2.2).mono ?_;rintro e w3 ⟨rfl,k3⟩;have HS3:Hid (Rs w3 w.heap.size (.slice pf n cf)/\Kz w w3):=(⟨HS2.1.kz k3,HS2.2.trans k3⟩:_/\_)
 clear HS2 k3 HE;by_cases g:0<n/\n<=3000/\(F (n-1)).a.k=1
 case neg=>
  rw[dc_f g];have hFl:Fl nmp flp F n 1 0:=.none0 (by omega);have hrs:=(uh HS3)
  have HX:Hid (Fl nmp flp F n 1 0/\Kz w ((w3.setCell ⟨w.heap.size+1,0,none⟩ (.int .i64 1)).setCell ⟨w.heap.size+1,1,none⟩ (.int .i64 0))):=(⟨hFl,(hrs.1.retz hrs.2 1 0).2.2⟩:_/\_)
  have e0:=(hrs.1.retz hrs.2 1 0).1;have e1:=(hrs.1.retz hrs.2 1 0).2.1;have c1:=hrs.1.r0;have c2:=hrs.1.r1;have c3:=hrs.1.z0;have c4:=hrs.1.z1;clear hrs hFl;go_wp2_with fail;refine bodyPost_ret (by simp[results,Tryz.results29,go_sem,e0,e1];rfl) rfl ?_;exact⟨1,0,rfl,HX.1,HX.2⟩
 rw[dc_t g];obtain⟨h0,h1,h2⟩:=g;have HG:Hid (0<n/\n<=3000/\(F (n-1)).a.k=1):=(⟨h0,h1,h2⟩:_/\_/\_)
 clear h0 h1 h2;have c0:=(uh HS3).1.ct;go_wp2_with fail;refine((uh HM) w3 HS3.2).mono ?_;rintro e w4 ⟨r,rfl,hmis,k4⟩;have HS4:Hid (Rs w4 w.heap.size (.slice pf n cf)/\Kz w w4):=(⟨HS3.1.kz k4,HS3.2.trans k4⟩:_/\_)
 clear HS3 k4 HM c0;cases hmis with
 |«at» i hi ha hd=>
  have hFl:Fl nmp flp F n 2 (i:Int):=.shape i HG.1 HG.2.1 HG.2.2 hi ha hd;clear ha hd;have hrs:=(uh HS4)
  have HX:Hid (Fl nmp flp F n 2 (i:Int)/\Kz w ((w4.setCell ⟨w.heap.size+1,0,none⟩ (.int .i64 2)).setCell ⟨w.heap.size+1,1,none⟩ (.int .i64 i))):=(⟨hFl,(hrs.1.retz hrs.2 2 (i:Int)).2.2⟩:_/\_)
  have e0:=(hrs.1.retz hrs.2 2 (i:Int)).1;have e1:=(hrs.1.retz hrs.2 2 (i:Int)).2.1;have c1:=hrs.1.r0;have c2:=hrs.1.r1;have c3:=hrs.1.z0;have c4:=hrs.1.z1;clear hrs hFl;go_wp2_with fail;refine bodyPost_ret (by simp[results,Tryz.results29,go_sem,e0,e1];rfl) rfl ?_;exact⟨2,(i:Int),rfl,HX.1,HX.2⟩
 |none ha=>
  have HNA:Hid (∀j,j<n->ndk nmp flp F j):=ha;have hK:=mis_kn ha;have HKN:Hid (Kn F n):=hK;have c0:=(uh HS4).1.ct;have hcd:=(uh HD) w4 HS4.2 HG.1 HG.2.1 hK;clear ha hK HD;go_wp2_with fail;refine hcd.mono ?_;rintro e w5 ⟨⟨r,rfl,hdis⟩,k5'⟩;have k5:=kz_of k5';have HS5:Hid (Rs w5 w.heap.size (.slice pf n cf)/\Kz w w5):=(⟨HS4.1.kz k5,HS4.2.trans k5⟩:_/\_)
  clear HS4 k5 k5' c0 hcd;cases hdis with
  |«at» i hi ha hd=>
   have hFl:Fl nmp flp F n 3 (i:Int):=.order i HG.1 HG.2.1 HG.2.2 HNA hi ha hd;clear ha hd;have hrs:=(uh HS5)
   have HX:Hid (Fl nmp flp F n 3 (i:Int)/\Kz w ((w5.setCell ⟨w.heap.size+1,0,none⟩ (.int .i64 3)).setCell ⟨w.heap.size+1,1,none⟩ (.int .i64 i))):=(⟨hFl,(hrs.1.retz hrs.2 3 (i:Int)).2.2⟩:_/\_)
   have e0:=(hrs.1.retz hrs.2 3 (i:Int)).1;have e1:=(hrs.1.retz hrs.2 3 (i:Int)).2.1;have c1:=hrs.1.r0;have c2:=hrs.1.r1;have c3:=hrs.1.z0;have c4:=hrs.1.z1;clear hrs hFl;go_wp2_with fail;refine bodyPost_ret (by simp[results,Tryz.results29,go_sem,e0,e1];rfl) rfl ?_;exact⟨3,(i:Int),rfl,HX.1,HX.2⟩
  |last ha hd=>
   have hFl:Fl nmp flp F n 3 ((n:Int)-1):=.whole HG.1 HG.2.1 HG.2.2 HNA ha hd;have hn1:0<=(n:Int)-1:=by have:=(uh HG).1;omega
   clear ha hd;obtain⟨rr,hrr⟩:∃rr,rr=(n:Int)-1:=⟨_,rfl⟩
   rw[<-hrr]at hFl hn1⊢;clear hrr;have hrs:=(uh HS5)
   have HX:Hid (Fl nmp flp F n 3 rr/\Kz w ((w5.setCell ⟨w.heap.size+1,0,none⟩ (.int .i64 3)).setCell ⟨w.heap.size+1,1,none⟩ (.int .i64 rr))):=(⟨hFl,(hrs.1.retz hrs.2 3 rr).2.2⟩:_/\_)
   have e0:=(hrs.1.retz hrs.2 3 rr).1;have e1:=(hrs.1.retz hrs.2 3 rr).2.1;have c1:=hrs.1.r0;have c2:=hrs.1.r1;have c3:=hrs.1.z0;have c4:=hrs.1.z1;clear hrs hFl;go_wp2_with fail;refine bodyPost_ret (by simp[results,Tryz.results29,go_sem,e0,e1];rfl) rfl ?_;exact⟨3,rr,rfl,HX.1,HX.2⟩
  |none ha hd=>
   have HND:Hid ((∀j,j<n->szl F n j≠0)/\szl F n (n-1)=(n:Int)):=(⟨ha,hd⟩:_/\_)
   have c0:=(uh HS5).1.ct;have hct:=(uh HT) w5 HS5.2 HG.2.1 HKN;clear ha hd HT;go_wp2_with fail;refine hct.mono ?_;rintro e w6' ⟨u,rfl,k5,hcu⟩;have HS6':Hid (Rs w6' w.heap.size (.slice pf n cf)/\Kz w w6'):=(⟨HS5.1.kz k5,HS5.2.trans k5⟩:_/\_)
   clear HS5 k5 c0 hct;go_wp2_with fail;refine hcu.mono ?_;rintro e w6 ⟨⟨r,rfl,htd⟩,k6'⟩;have k6:=kz_of k6';have HS6:Hid (Rs w6 w.heap.size (.slice pf n cf)/\Kz w w6):=(⟨HS6'.1.kz k6,HS6'.2.trans k6⟩:_/\_)
   clear HS6' k6 k6' hcu;cases htd with
   |«at» i hi ha hd=>
    have hFl:Fl nmp flp F n 4 (i:Int):=.depth i HG.1 HG.2.1 HG.2.2 HNA HND.1 HND.2 hi ha hd;clear ha hd;have hrs:=(uh HS6)
    have HX:Hid (Fl nmp flp F n 4 (i:Int)/\Kz w ((w6.setCell ⟨w.heap.size+1,0,none⟩ (.int .i64 4)).setCell ⟨w.heap.size+1,1,none⟩ (.int .i64 i))):=(⟨hFl,(hrs.1.retz hrs.2 4 (i:Int)).2.2⟩:_/\_)
    have e0:=(hrs.1.retz hrs.2 4 (i:Int)).1;have e1:=(hrs.1.retz hrs.2 4 (i:Int)).2.1;have c1:=hrs.1.r0;have c2:=hrs.1.r1;have c3:=hrs.1.z0;have c4:=hrs.1.z1;clear hrs hFl;go_wp2_with fail;refine bodyPost_ret (by simp[results,Tryz.results29,go_sem,e0,e1];rfl) rfl ?_;exact⟨4,(i:Int),rfl,HX.1,HX.2⟩
   |none ha=>
    have hFl:Fl nmp flp F n 0 0:=.sound HG.1 HG.2.1 HG.2.2 HNA HND.1 HND.2 ha;clear ha;have hrs:=(uh HS6)
    have HX:Hid (Fl nmp flp F n 0 0/\Kz w ((w6.setCell ⟨w.heap.size+1,0,none⟩ (.int .i64 0)).setCell ⟨w.heap.size+1,1,none⟩ (.int .i64 0))):=(⟨hFl,(hrs.1.retz hrs.2 0 0).2.2⟩:_/\_)
    have e0:=(hrs.1.retz hrs.2 0 0).1;have e1:=(hrs.1.retz hrs.2 0 0).2.1;have c1:=hrs.1.r0;have c2:=hrs.1.r1;have c3:=hrs.1.z0;have c4:=hrs.1.z1;clear hrs hFl;go_wp2_with fail;refine bodyPost_ret (by simp[results,Tryz.results29,go_sem,e0,e1];rfl) rfl ?_;exact⟨0,0,rfl,HX.1,HX.2⟩
theorem first_uniq{P:Nat->Prop}{j:Nat}(hi:∀k,k<i->P k)(hi':¬P i)(hj:∀k,k<j->P k)(hj':¬P j):i=j:=by
 rcases Nat.lt_trichotomy i j with h|h|h
 ·exact absurd (hj i h) hi'
 ·exact h
 ·exact absurd (hi j h) hj'
theorem Fl.uniq{nm fl:ByteArray->Prop}{c f c' f':Int}(h:Fl nm fl F n c f)(h':Fl nm fl F n c' f'):c=c'/\f=f':=by
 cases h with
 |none0 a=>cases h' with
  |none0 b=>exact⟨rfl,rfl⟩
  |_=>exfalso;omega
 |shape i a1 a2 a3 a4 a5 a6=>cases h' with
  |none0 b=>exfalso;omega
  |shape j b1 b2 b3 b4 b5 b6=>exact⟨rfl,by rw[first_uniq a5 a6 b5 b6]⟩
  |order j b1 b2 b3 b4=>exact absurd (b4 i a4) a6
  |whole b1 b2 b3 b4=>exact absurd (b4 i a4) a6
  |depth j b1 b2 b3 b4=>exact absurd (b4 i a4) a6
  |sound b1 b2 b3 b4=>exact absurd (b4 i a4) a6
 |order i a1 a2 a3 a4 a5 a6 a7=>cases h' with
  |none0 b=>exfalso;omega
  |shape j b1 b2 b3 b4 b5 b6=>exact absurd (a4 j b4) b6
  |order j b1 b2 b3 b4 b5 b6 b7=>exact⟨rfl,by rw[first_uniq (P:=λk=>szl F n k≠0) a6 (λz=>z a7) b6 (λz=>z b7)]⟩
  |whole b1 b2 b3 b4 b5=>exact absurd a7 (b5 i a5)
  |depth j b1 b2 b3 b4 b5=>exact absurd a7 (b5 i a5)
  |sound b1 b2 b3 b4 b5=>exact absurd a7 (b5 i a5)
 |whole a1 a2 a3 a4 a5 a6=>cases h' with
  |none0 b=>exfalso;omega
  |shape j b1 b2 b3 b4 b5 b6=>exact absurd (a4 j b4) b6
  |order j b1 b2 b3 b4 b5 b6 b7=>exact absurd b7 (a5 j b5)
  |whole b1 b2 b3 b4 b5=>exact⟨rfl,rfl⟩
  |depth j b1 b2 b3 b4 b5 b6=>exact absurd b6 a6
  |sound b1 b2 b3 b4 b5 b6=>exact absurd b6 a6
 |depth i a1 a2 a3 a4 a5 a6 a7 a8 a9=>cases h' with
  |none0 b=>exfalso;omega
  |shape j b1 b2 b3 b4 b5 b6=>exact absurd (a4 j b4) b6
  |order j b1 b2 b3 b4 b5 b6 b7=>exact absurd b7 (a5 j b5)
  |whole b1 b2 b3 b4 b5 b6=>exact absurd a6 b6
  |depth j b1 b2 b3 b4 b5 b6 b7 b8 b9=>exact⟨rfl,by rw[first_uniq (P:=λk=>dpr F n n k<=100) a8 (by omega) b8 (by omega)]⟩
  |sound b1 b2 b3 b4 b5 b6 b7=>have:=b7 i a7;omega
 |sound a1 a2 a3 a4 a5 a6 a7=>cases h' with
  |none0 b=>exfalso;omega
  |shape j b1 b2 b3 b4 b5 b6=>exact absurd (a4 j b4) b6
  |order j b1 b2 b3 b4 b5 b6 b7=>exact absurd b7 (a5 j b5)
  |whole b1 b2 b3 b4 b5 b6=>exact absurd a6 b6
  |depth j b1 b2 b3 b4 b5 b6 b7 b8 b9=>have:=a7 j b7;omega
  |sound b1 b2 b3 b4 b5 b6 b7=>exact⟨rfl,rfl⟩
theorem cell_keepz{a:World}{b o:Nat}(h:Kz a W)(hc:a.cell? ⟨b,o,none⟩=some v):W.cell? ⟨b,o,none⟩=some v:=(h.cell (p:=⟨b,o,none⟩) (lt_of_cell hc)).trans hc
theorem cell_new1(W:World)(v:Value)(t:TypeId):(W.alloc (.cells #[v] t)).cell? ⟨W.heap.size,0,none⟩=some v:=by
 rw[World.cell?_alloc_at _ _ _ _ rfl];rfl
theorem smr_p(h:n+smr F n<=1048576):(∀i,i<n->(F i).p<=1048576)/\∀i,i<n->(F i).q<=1048576:=by
 constructor
 all_goals
  intro i hi;have hsu:=smr_mono F (show i+1<=n from hi);have hss:smr F (i+1)=smr F i+(F i).p+(F i).q:=rfl;omega
section
variable {H:Type} {enc:TypeId × Value->H} {w:World} {base:Nat} {sp:Nat->Bool} {held:Bool}
theorem read_num{fuel:Nat}{cs:List Value}{x:DataW H×List MemPlace}{b:Addr}(h:DataW.trod enc Tryz.prog w base sp held fuel 59 cs=some x)(hc:w.cells? base b 9=some cs):
  ∃z:Int,w.cell? ⟨b.block,b.off+5,none⟩=some (.int .i64 z)/\-9223372036854775808<=z/\z<=9223372036854775807:=by
 obtain⟨_,hlen,hcell⟩:=World.cells?_some hc;obtain⟨xs,n,_,rfl,hl,hxl,hf⟩:=DataW.trod_struct Tryz.underlying59 h
 match cs,hlen with
 | [c0,c1,c2,c3,c4,c5,c6,c7,c8],_=>
  match xs,hxl with
  | [y0,y1,y2,y3,y4,y5,y6,y7,y8],_=>
   have t5:=hf 5 _ rfl;simp[cells2]at t5;obtain⟨z5,e5,_,g5⟩:=DataW.trod_int Tryz.underlying2 t5;simp only[List.cons.injEq,and_true]at e5;subst e5;refine⟨z5,?_,?_,?_⟩
   ·have:=hcell 5 (by omega);simpa [Addr.add]using this
   ·have:=g5;simp[Lit.wf,IntKind.min,IntKind.max,IntKind.signed,IntKind.bits]at this;omega
   ·have:=g5;simp[Lit.wf,IntKind.min,IntKind.max,IntKind.signed,IntKind.bits]at this;omega
end
end Go.Proofs.YtkhdehngobkkfaaGreatDoor.Fo
namespace Go.Proofs.YtkhdehngobkkfaaGreatDoor
open Go.ChangeShapes Go.WideShapes Go.ChangeAt Go.RowKit
set_option linter.unusedVariables false
variable {H:Type}{P:Program}{sp:Nat->Bool}{t e:TypeId}{n:Nat}{ls:List (List UInt8)}{W:World}
def strData(ls:List (List UInt8)):DataW H:=.agg (ls.map λl=>.lit (.string l))
def strVals(ls:List (List UInt8)):List Value:=ls.map λl=>Value.string ⟨l.toArray⟩
theorem strs_cells{enc:TypeId×Value->H}{w:World}{base:Nat}{held:Bool}{fuel:Nat}{cs:List Value}{p:List MemPlace}
  (ht:P.underlying t=some (.array n e)) (he:P.underlying e=some .string) (hce:P.cellsOf e=1) (hct:P.cellsOf t=n)
  (h:DataW.trod enc P w base sp held fuel t cs=some (strData ls,p)):cs=strVals ls:=by
 cases fuel with
 |zero=>simp[DataW.trod]at h
 |succ fuel=>
  simp only[DataW.trod,ht,hce,hct,Nat.mul_one]at h;split at h
  ·rename_i hl
   obtain⟨xs,hm,hx⟩:=Option.map_eq_some_iff.1 h;have h1:=congrArg Prod.fst hx;simp only[strData,DataW.agg.injEq]at h1;have hlen:=Lib.mapM_length hm
   have hll:ls.length=n:=by
    have:=congrArg List.length h1;simp at this hlen;omega
   refine List.ext_getElem? λi=>?_;rcases Nat.lt_or_ge i n with hi|hi
   ·obtain⟨b,hb,hf⟩:=Lib.mapM_at hm i i (by simp[hi]);obtain⟨s,hc,hs,_⟩:=DataW.trod_string he hf
    have hci:cs[i]? =some (.string s):=by
     have:=congrArg (·[0]?) hc
     simpa [List.getElem?_take,List.getElem?_drop]using this
    have hbi:(xs.map (·.1))[i]? =some (.lit (.string s.data.toList)):=by simp[hb,hs]
    have hli:(ls.map λl=>(DataW.lit (.string l):DataW H))[i]? =some (.lit (.string s.data.toList)):=by rw[<-hbi,<-h1]
    rw[List.getElem?_map,Option.map_eq_some_iff]at hli;obtain⟨l,hl2,hl3⟩:=hli;have hl4:l=s.data.toList:=by simpa using hl3
    rw[hci,strVals,List.getElem?_map,hl2,hl4]
    simp
   ·rw[List.getElem?_eq_none (by omega),List.getElem?_eq_none (by simp[strVals];omega)]
  ·cases h
theorem strs_head{name:String}{rest:List (String×DataW Unit)}{g:Nat}
  (hg:P.globalNamed name=some g) (hty:(P.globals[g]?).map (·.type)=some t) (ht:P.underlying t=some (.array n e)) (he:P.underlying e=some .string) (hce:P.cellsOf e=1) (hct:P.cellsOf t=n)
  (h:laidMet P ((name,strData ls)::rest) W):W.rangeAt g 0 (strVals ls):=by
 obtain⟨ps,⟨g',t',cs,fuel,p,q,hg',ht',hvar,hd,_,_⟩,_⟩:=h;obtain rfl:=Option.some.inj (hg.symm.trans hg');obtain rfl:=Option.some.inj (hty.symm.trans ht');intro j v hv;have h1:=World.var?_cell hg hvar j;rw[Nat.zero_add,h1,<-hv,<-strs_cells ht he hce hct hd]
 simp
theorem gW:Tryz.prog.globalNamed "loop.example/heddle/impl.words" =some 0:=by kernel_rfl
theorem gM:Tryz.prog.globalNamed "loop.example/heddle/impl.marks" =some 1:=by kernel_rfl
theorem gX:Tryz.prog.globalNamed "loop.example/heddle/impl.infixes" =some 2:=by kernel_rfl
theorem gS:Tryz.prog.globalNamed "strconv.ErrSyntax" =some 10:=by kernel_rfl
theorem gR:Tryz.prog.globalNamed "strconv.ErrRange" =some 11:=by kernel_rfl
theorem tyW:(Tryz.prog.globals[0]?).map (·.type)=some 143:=by kernel_rfl
theorem tyM:(Tryz.prog.globals[1]?).map (·.type)=some 144:=by kernel_rfl
theorem tyX:(Tryz.prog.globals[2]?).map (·.type)=some 145:=by kernel_rfl
theorem tyS:(Tryz.prog.globals[10]?).map (·.type)=some 87:=by kernel_rfl
theorem tyR:(Tryz.prog.globals[11]?).map (·.type)=some 87:=by kernel_rfl
theorem cW:Tryz.prog.cellsOf 143=22:=by kernel_rfl
theorem cM:Tryz.prog.cellsOf 144=11:=by kernel_rfl
theorem cX:Tryz.prog.cellsOf 145=18:=by kernel_rfl
theorem cE:Tryz.prog.cellsOf 224=1:=by kernel_rfl
theorem cS:Tryz.prog.cellsOf 9=1:=by kernel_rfl
theorem star: "*" ++ "errors.errorString" = "*errors.errorString" :=by decide
theorem rowE(u:TypeId)(h:Tryz.prog.typeName? 3 u=some "*errors.errorString"):u=222:=
 typeName_ptr_named (nm:= "errors.errorString") (by rw[star];kernel_rfl) (by kernel_rfl) (by decide) u (by rw[star];exact h)
theorem gd_laid(h:laidMet Tryz.prog Rows.fnExactPrintRow.laid W):Gd W:=by
 have h3:=laidMet.tail (laidMet.tail (laidMet.tail h));have h4:=laidMet.tail h3;have h5:=laidMet.tail h4;have h6:=laidMet.tail h5;have h7:=laidMet.tail h6;obtain⟨ar,sr,hvr,_⟩:=laid_sentinel h3 gR tyR Tryz.underlying87 rowE Tryz.underlying222 Tryz.underlying224 rfl rfl Tryz.underlying9 cE cS;obtain⟨ay,ss,hvs,_⟩:=laid_sentinel h4 gS tyS Tryz.underlying87 rowE Tryz.underlying222 Tryz.underlying224 rfl rfl Tryz.underlying9 cE cS;have e7:W.cell? ⟨11,0,none⟩=some (.iface 222 (.pointer (some ar))):=by have h0:=World.var?_cell gR hvr 0;simpa using h0
 have e6:W.cell? ⟨10,0,none⟩=some (.iface 222 (.pointer (some ay))):=by have h0:=World.var?_cell gS hvs 0;simpa using h0
 exact⟨strs_head (ls:=wordsL) gW tyW Tryz.underlying143 Tryz.underlying9 cS cW h5,strs_head (ls:=marksL) gM tyM Tryz.underlying144 Tryz.underlying9 cS cM h6,strs_head (ls:=infixL) gX tyX Tryz.underlying145 Tryz.underlying9 cS cX h7,⟨_,_,e7⟩,⟨_,_,e6⟩,(by have h9:=Rd.lt_of_cell e7;omega)⟩
theorem kept_vars {H:Type} {enc:TypeId×Value->H} {P:Program} (hl:laidOutB P=true) {W W':World} (hk:∀i,i<W.heap.size->W'.heap[i]? =W.heap[i]?):
  ∀{ns:List String} {gs:List (DataW H)} {ps:List MemPlace},varsRowed P ns=true->DataW.TrodVars enc P W (λ_=>true) ns gs ps->DataW.TrodVars enc P W' (λb=>decide (b<W.heap.size)) ns gs ps
 | [],[],_,_,h=>h
 | [],_::_,_,_,h=>h.elim
 |_::_,[],_,_,h=>h.elim
 |n::ns,d::ds,ps,hv,h=>by
  have hin:=h.lt;obtain⟨g,t,cs,fuel,p,q,hg,hty,hc,hd,hr,hps⟩:=h;subst hps;have hv1:=hv;unfold varsRowed at hv1;rw[List.all_cons,Bool.and_eq_true,hg]at hv1
  have hrow:P.readableRec t=true/\t<P.types.size:=by
   cases hgl:P.globals[g]? with
   |none=>rw[hgl]at hty;cases hty
   |some gl=>
    rw[hgl]at hty;have e:gl.type=t:=Option.some.inj hty;have h1:=hv1.1;rw[show(some g).bind (P.globals[·]?)=some gl from hgl]at h1;subst e
    simpa using h1
  have hold:∀x ∈ p,x.block<W.heap.size:=λx hx=>hin x (by simp[hx])
  have hgs:g<W.heap.size:=by
   unfold World.var? at hc;rw[hg]at hc;cases hh:W.heap[g]? with
   |none=>simp[hh]at hc
   |some o=>exact(Array.getElem?_eq_some_iff.1 hh).1
  refine⟨g,t,cs,fuel,p,q,hg,hty,?_,?_,kept_vars hl hk (by unfold varsRowed;exact hv1.2) hr,rfl⟩
  ·rw[<-hc];unfold World.var?;rw[hg];simp only[Option.bind_some];rw[hk g hgs]
  ·refine DataW.trod_stays (kids_book hl hrow.1) (book_sized hrow.1) (λh=>by cases h) ⟨hrow.2,book_self t⟩ hd (λx hx=>?_) (λx hx=>by simpa using hold x hx);have hb:=hold x hx;cases x with
   |cell b o=>exact World.cell?_of_block (w:=W) (hk b hb)
   |map b=>exact hk b hb
theorem vars_six{enc:TypeId×Value->H}{a b c d e f:String}{gs:List (DataW H)}{ps:List MemPlace}(h:DataW.TrodVars enc P W sp [a,b,c,d,e,f] gs ps):∃x y z u v t,gs=[x,y,z,u,v,t]:=by
 match gs,h with
 | [],h=>exact h.elim
 | [x],h=>obtain⟨_,_,_,_,_,_,_,_,_,_,h,_⟩:=h;exact h.elim
 | [x,y],h=>obtain⟨_,_,_,_,_,_,_,_,_,_,h,_⟩:=h;obtain⟨_,_,_,_,_,_,_,_,_,_,h,_⟩:=h;exact h.elim
 | [x,y,z],h=>obtain⟨_,_,_,_,_,_,_,_,_,_,h,_⟩:=h;obtain⟨_,_,_,_,_,_,_,_,_,_,h,_⟩:=h;obtain⟨_,_,_,_,_,_,_,_,_,_,h,_⟩:=h;exact h.elim
 | [x,y,z,u],h=>obtain⟨_,_,_,_,_,_,_,_,_,_,h,_⟩:=h;obtain⟨_,_,_,_,_,_,_,_,_,_,h,_⟩:=h;obtain⟨_,_,_,_,_,_,_,_,_,_,h,_⟩:=h;obtain⟨_,_,_,_,_,_,_,_,_,_,h,_⟩:=h;exact h.elim
 | [x,y,z,u,v],h=>obtain⟨_,_,_,_,_,_,_,_,_,_,h,_⟩:=h;obtain⟨_,_,_,_,_,_,_,_,_,_,h,_⟩:=h;obtain⟨_,_,_,_,_,_,_,_,_,_,h,_⟩:=h;obtain⟨_,_,_,_,_,_,_,_,_,_,h,_⟩:=h;obtain⟨_,_,_,_,_,_,_,_,_,_,h,_⟩:=h;exact h.elim
 | [x,y,z,u,v,t],h=>exact⟨x,y,z,u,v,t,rfl⟩
 |x::y::z::u::v::t::r::q,h=>obtain⟨_,_,_,_,_,_,_,_,_,_,h,_⟩:=h;obtain⟨_,_,_,_,_,_,_,_,_,_,h,_⟩:=h;obtain⟨_,_,_,_,_,_,_,_,_,_,h,_⟩:=h;obtain⟨_,_,_,_,_,_,_,_,_,_,h,_⟩:=h;obtain⟨_,_,_,_,_,_,_,_,_,_,h,_⟩:=h;obtain⟨_,_,_,_,_,_,_,_,_,_,h,_⟩:=h;exact h.elim
end Go.Proofs.YtkhdehngobkkfaaGreatDoor
namespace Go.Proofs.YtkhdehngobkkfaaGreatDoor.Fo
open Go.ChangeShapes Go.WideShapes Go.ChangeAt Go.RowKit
set_option linter.unusedVariables false
def byt(x:ByteArray):List UInt8:=x.data.toList
def kn(F:Nat->Gv)(i j:Nat):Nat:=((F i).K j).toNat
def cmj (ts:Nat->List UInt8):Nat->List UInt8
 |0=>[]
 |j+1=>cmj ts j++(if j=0 then []else [44,32])++ts j
def tbs(t:Nat):List UInt8:=List.replicate t 9
def bpo(o:Int):Int:=if 13<=o then 3 else if o=12 then 4 else if o=8 then 5 else if o=9 then 6 else if o=7 then 7 else if o=10\/o=11 then 8 else if o=1\/o=2 then 9 else 10
def pwf(a:Fv):Int:=if a.k=29 then 1 else if a.k=28 then 2 else if a.k=31 then bpo a.o else if a.k=30 then 11 else 12
def rpf(a:Fv):Int:=if a.k=29 then 2 else if a.k=28 then 3 else if a.o=12 then 4 else bpo a.o+1
def lpf(a:Fv):Int:=if a.k=29 then 1 else if a.k=28 then 2 else if a.o=12 then 5 else bpo a.o
def sgf(a:Fv):List UInt8:=if a.k=28 then [32,97,110,100,32]else if a.k=29 then [32,111,114,32]else 32::(infixL.getD (a.o.toNat-1) []++[32])
def par(T:List UInt8)(p l:Int):List UInt8:=if p<l then 40::(T++[41])else T
def bsk(k:Int)(T:List UInt8):List UInt8:=if k=26\/k=32\/k=33\/k=34\/k=37 then T else 40::(T++[41])
def upf(o:Int)(b:Fv):List UInt8:=if o=21 then [110,111,116,32]else if o=22 then [35]else if o=20 then [126]else if b.k=30/\b.o=19 then [45,32]else [45]
def lns (t:Nat) (ts:Nat->List UInt8):Nat->List UInt8
 |0=>[]
 |j+1=>lns t ts j++(10::(tbs t++ts j))
def nms(f:Gv):List UInt8:=cmj (λj=>byt (f.A j)) f.p
def prm(f:Gv):List UInt8:=nms f++(if f.a.o=1 then(if f.p=0 then []else [44,32])++[46,46,46]else [])
def plf(IT:Int->ByteArray)(a:Fv):List UInt8:=if a.k=20 then [110,105,108]else if a.k=21 then [116,114,117,101]else if a.k=22 then [102,97,108,115,101]else if a.k=23 then byt (IT a.m)else if a.k=25 then byt (qt a.x)else if a.k=27 then [46,46,46]else byt a.x
def sp1:List UInt8:=[32]
def eq3:List UInt8:=[32,61,32]
inductive Pr (F:Nat->Gv) (IT:Int->ByteArray):Nat->Nat->Nat->List UInt8->Prop
 |inf {t i:Nat} {x y:List UInt8} (hk:(F i).a.k=28\/(F i).a.k=29\/(F i).a.k=31) (ho:(F i).a.k=31->1<=(F i).a.o/\(F i).a.o<=18) (hq:(F i).q=2) (h0:Pr F IT 0 t (kn F i 0) x) (h1:Pr F IT 0 t (kn F i 1) y):Pr F IT 0 t i (par x (pwf (F (kn F i 0)).a) (lpf (F i).a)++sgf (F i).a++par y (pwf (F (kn F i 1)).a) (rpf (F i).a))
 |un {t i:Nat} {x:List UInt8} (hk:(F i).a.k=30) (ho:19<=(F i).a.o/\(F i).a.o<=22) (hq:(F i).q=1) (h0:Pr F IT 0 t (kn F i 0) x):Pr F IT 0 t i (upf (F i).a.o (F (kn F i 0)).a++par x (pwf (F (kn F i 0)).a) 11)
 |idx {t i:Nat} {x y:List UInt8} (hk:(F i).a.k=32) (hq:(F i).q=2) (h0:Pr F IT 0 t (kn F i 0) x) (h1:Pr F IT 0 t (kn F i 1) y):Pr F IT 0 t i (bsk (F (kn F i 0)).a.k x++[91]++y++[93])
 |fld {t i:Nat} {x:List UInt8} (hk:(F i).a.k=33) (hq:(F i).q=1) (h0:Pr F IT 0 t (kn F i 0) x):Pr F IT 0 t i (bsk (F (kn F i 0)).a.k x++(46::byt (F i).a.x))
 |call {t i:Nat} {x:List UInt8} {ts:Nat->List UInt8} (hk:(F i).a.k=34) (hq:1<=(F i).q) (h0:Pr F IT 0 t (kn F i 0) x) (h1:∀j,j<(F i).q-1->Pr F IT 0 t (kn F i (1+j)) (ts j)):Pr F IT 0 t i (bsk (F (kn F i 0)).a.k x++[40]++cmj ts ((F i).q-1)++[41])
 |tab {t i:Nat} {ts:Nat->List UInt8} (hk:(F i).a.k=35) (h:∀j,j<(F i).q->Pr F IT 5 t (kn F i j) (ts j)):Pr F IT 0 t i ([123]++cmj ts (F i).q++[125])
 |fn {t i:Nat} {x:List UInt8} (hk:(F i).a.k=36) (h:Pr F IT 4 t i x):Pr F IT 0 t i ([102,110]++x)
 |one {t i:Nat} {x:List UInt8} (hk:(F i).a.k=37) (hq:(F i).q=1) (h:Pr F IT 0 t (kn F i 0) x):Pr F IT 0 t i ([40]++x++[41])
 |pln {t i:Nat} (hk:20<=(F i).a.k/\(F i).a.k<=27):Pr F IT 0 t i (plf IT (F i).a)
 |itm {t i:Nat} {x:List UInt8} (hk:(F i).a.k=40) (hq:(F i).q=1) (h:Pr F IT 0 t (kn F i 0) x):Pr F IT 5 t i x
 |pai {t i:Nat} {x y:List UInt8} (hk:(F i).a.k=41) (hq:(F i).q=2) (h0:Pr F IT 0 t (kn F i 0) x) (h1:Pr F IT 0 t (kn F i 1) y):Pr F IT 5 t i ([91]++x++[93,32,61,32]++y)
 |nam {t i:Nat} {x:List UInt8} (hk:(F i).a.k=42) (hq:(F i).q=1) (h:Pr F IT 0 t (kn F i 0) x):Pr F IT 5 t i ((46::byt (F i).a.x)++eq3++x)
 |blk {t i:Nat} {x:List UInt8} (hk:(F i).a.k=1) (h:Pr F IT 2 t i x):Pr F IT 1 t i x
 |let0 {t i:Nat} (hk:(F i).a.k=2) (hq:(F i).q=0):Pr F IT 1 t i ([108,101,116,32]++nms (F i))
 |let1 {t i:Nat} {ts:Nat->List UInt8} (hk:(F i).a.k=2) (hq:0<(F i).q) (h:∀j,j<(F i).q->Pr F IT 0 t (kn F i j) (ts j)):Pr F IT 1 t i ([108,101,116,32]++nms (F i)++eq3++cmj ts (F i).q)
 |cst {t i:Nat} {x:List UInt8} (hk:(F i).a.k=3) (hp:(F i).p=1) (hq:(F i).q=1) (h:Pr F IT 0 t (kn F i 0) x):Pr F IT 1 t i ([99,111,110,115,116,32]++byt ((F i).A 0)++eq3++x)
 |sfn {t i:Nat} {x:List UInt8} (hk:(F i).a.k=4) (hp:(F i).p=1) (hq:(F i).q=1) (h:Pr F IT 4 t (kn F i 0) x):Pr F IT 1 t i ([102,110,32]++byt ((F i).A 0)++x)
 |set {t i:Nat} {ts us:Nat->List UInt8} (hk:(F i).a.k=5) (hm:1<=(F i).a.m/\(F i).a.m<((F i).q:Int)) (h:∀j,j<(F i).a.m.toNat->Pr F IT 0 t (kn F i j) (ts j)) (h1:∀j,j<(F i).q-(F i).a.m.toNat->Pr F IT 0 t (kn F i ((F i).a.m.toNat+j)) (us j)):Pr F IT 1 t i (cmj ts (F i).a.m.toNat++eq3++cmj us ((F i).q-(F i).a.m.toNat))
 |sdo {t i:Nat} {x:List UInt8} (hk:(F i).a.k=6) (hq:(F i).q=1) (h:Pr F IT 0 t (kn F i 0) x):Pr F IT 1 t i x
 |sif {t i:Nat} {x:List UInt8} (hk:(F i).a.k=7) (h:Pr F IT 3 t i x):Pr F IT 1 t i ([105,102,32]++x)
 |whi {t i:Nat} {x y:List UInt8} (hk:(F i).a.k=8) (hq:(F i).q=2) (h0:Pr F IT 0 t (kn F i 0) x) (h1:Pr F IT 2 t (kn F i 1) y):Pr F IT 1 t i ([119,104,105,108,101,32]++x++sp1++y)
 |for {t i:Nat} {ts:Nat->List UInt8} {y:List UInt8} (hk:(F i).a.k=9) (hp:(F i).p=1) (hq:(F i).q=3\/(F i).q=4) (h0:∀j,j<(F i).q-1->Pr F IT 0 t (kn F i j) (ts j)) (h1:Pr F IT 2 t (kn F i ((F i).q-1)) y):Pr F IT 1 t i ([102,111,114,32]++nms (F i)++eq3++cmj ts ((F i).q-1)++sp1++y)
 |eac {t i:Nat} {x y:List UInt8} (hk:(F i).a.k=10) (hq:(F i).q=2) (h0:Pr F IT 0 t (kn F i 0) x) (h1:Pr F IT 2 t (kn F i 1) y):Pr F IT 1 t i ([102,111,114,32]++nms (F i)++[32,105,110,32]++x++sp1++y)
 |brk {t i:Nat} (hk:(F i).a.k=11):Pr F IT 1 t i [98,114,101,97,107]
 |nxt {t i:Nat} (hk:(F i).a.k=12):Pr F IT 1 t i [110,101,120,116]
 |ret0 {t i:Nat} (hk:(F i).a.k=13) (hq:(F i).q=0):Pr F IT 1 t i [114,101,116,117,114,110]
 |ret1 {t i:Nat} {ts:Nat->List UInt8} (hk:(F i).a.k=13) (hq:0<(F i).q) (h:∀j,j<(F i).q->Pr F IT 0 t (kn F i j) (ts j)):Pr F IT 1 t i ([114,101,116,117,114,110]++sp1++cmj ts (F i).q)
 |try {t i:Nat} {x y:List UInt8} (hk:(F i).a.k=14) (hq:(F i).q=2) (h0:Pr F IT 2 t (kn F i 0) x) (h1:Pr F IT 2 t (kn F i 1) y):Pr F IT 1 t i ([116,114,121,32]++x++[32,99,97,116,99,104,32]++nms (F i)++sp1++y)
 |thr {t i:Nat} {x:List UInt8} (hk:(F i).a.k=15) (hq:(F i).q=1) (h:Pr F IT 0 t (kn F i 0) x):Pr F IT 1 t i ([116,104,114,111,119,32]++x)
 |dfr {t i:Nat} {x:List UInt8} (hk:(F i).a.k=16) (hq:(F i).q=1) (h:Pr F IT 0 t (kn F i 0) x):Pr F IT 1 t i ([100,101,102,101,114,32]++x)
 |if2 {t i:Nat} {x y:List UInt8} (hk:(F i).a.k=7) (hq:(F i).q=2) (h0:Pr F IT 0 t (kn F i 0) x) (h1:Pr F IT 2 t (kn F i 1) y):Pr F IT 3 t i (x++sp1++y)
 |if3 {t i:Nat} {x y z:List UInt8} (hk:(F i).a.k=7) (hq:(F i).q=3) (hz:(F (kn F i 2)).a.k=1) (h0:Pr F IT 0 t (kn F i 0) x) (h1:Pr F IT 2 t (kn F i 1) y) (h2:Pr F IT 2 t (kn F i 2) z):Pr F IT 3 t i (x++sp1++y++[32,101,108,115,101,32]++z)
 |elf {t i:Nat} {x y z:List UInt8} (hk:(F i).a.k=7) (hq:(F i).q=3) (hz:(F (kn F i 2)).a.k=7) (h0:Pr F IT 0 t (kn F i 0) x) (h1:Pr F IT 2 t (kn F i 1) y) (h2:Pr F IT 3 t (kn F i 2) z):Pr F IT 3 t i (x++sp1++y++[32,101,108,105,102,32]++z)
 |b0 {t i:Nat} (hk:(F i).a.k=1) (hq:(F i).q=0):Pr F IT 2 t i [123,125]
 |b1 {t i:Nat} {ts:Nat->List UInt8} (hk:(F i).a.k=1) (hq:0<(F i).q) (h:∀j,j<(F i).q->Pr F IT 1 (t+1) (kn F i j) (ts j)):Pr F IT 2 t i ([123]++lns (t+1) ts (F i).q++(10::(tbs t++[125])))
 |bdy {t i:Nat} {x:List UInt8} (hk:(F i).a.k=36) (hq:(F i).q=1) (h:Pr F IT 2 t (kn F i 0) x):Pr F IT 4 t i ([40]++prm (F i)++[41,32]++x)
def ITok(IT:Int->ByteArray):Prop:=∀m:Int,-9223372036854775808<=m->m<=9223372036854775807->(IT m).size<=40
def CB:Nat:=40000
