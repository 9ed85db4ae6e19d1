import Derived.Test.YtkhdehngobkkfaaGreatDoorASka
set_option maxRecDepth 100000
set_option maxHeartbeats 8000000
namespace Go.Proofs.YtkhdehngobkkfaaGreatDoor.Fo
open Go.ChangeShapes Go.WideShapes Go.ChangeAt Go.RowKit
set_option linter.unusedVariables false
variable {nm:ByteArray->Prop}{w:World}{v vn vk:Value}{n p q:Nat}{F:Nat->Gv}{A:Nat->ByteArray}{K:Nat->Int}
def FlS(fl:ByteArray->Prop):Prop:=∀x w,Calls Tryz.prog 72 #[.string x] w λe w'=>e=.returned (.bool (dc (fl x)))/\Below w.heap.size w w'
theorem xp_20(s:Sx nm w v n F vn vk p A q K)(a:Fv)(hk:a.k=20):
  Calls Tryz.prog 38 #[.agg #[v],fmv a vn vk] w λe w'=>e=.returned (.bool (dc (q=0/\br a p false false false false)))/\Below w.heap.size w w':=by
 obtain⟨k,f,t,l,o,m,x⟩:=a;dsimp only at hk;subst hk;obtain⟨W2,hW2,HBL,HSY,hqI,HSQ,⟨pn,cn,rfl⟩,⟨pk,ck,rfl⟩,pf,cf,rfl⟩:=s.opn 20 f t l o m x 29 44;refine opR λR HR=>?_;clear s;by_cases hq0:q=0
 ·subst hq0;go_enter Tryz.func38,Tryz.ntmps38;unfold fmv;go_wp2_with fail;rw[<-hW2];clear hW2;have B0:Below W2.heap.size W2 W2:=Below.refl _ _;obtain⟨c0,c1,c2,c3,c4,c5,c6,c7,c8,ct⟩:=(uh HSY).bz B0;go_wp2_with fail;refine((uh HSY).bare false false false false _ B0).mono ?_;rintro e w1 ⟨rfl,B1⟩;clear c0 c1 c2 c3 c4 c5 c6 c7 c8 ct;obtain⟨c0,c1,c2,c3,c4,c5,c6,c7,c8,ct⟩:=(uh HSY).bz B1;by_cases h1:br ⟨20,f,t,l,o,m,x⟩ p false false false false
  ·rw[dc_t h1];have HH1:=hid h1;clear h1;go_wp2_with fail;go_ret;exact⟨by rw[show R=_ from HR,dc_t ⟨(by first|rfl|trivial),HH1⟩];first|rfl|(simp[*];done),(uh HBL) _ B1⟩
  ·rw[dc_f h1];have HN9:=hid h1;clear h1;go_wp2_with fail;go_ret;exact⟨by rw[show R=_ from HR,dc_f (λg=>HN9 g.2)];first|rfl|(simp[*];done),(uh HBL) _ B1⟩
 ·have e0:((q:Int)==0)=false:=bne (by omega);have HN9:=hid hq0;clear hq0;go_enter Tryz.func38,Tryz.ntmps38;unfold fmv;go_wp2_with fail;go_ret;exact⟨rdf HR (λg=>HN9 g.1),bel2 _ _ _⟩
theorem xp_23(s:Sx nm w v n F vn vk p A q K)(a:Fv)(hk:a.k=23):
  Calls Tryz.prog 38 #[.agg #[v],fmv a vn vk] w λe w'=>e=.returned (.bool (dc (q=0/\br a p false true false false)))/\Below w.heap.size w w':=by
 obtain⟨k,f,t,l,o,m,x⟩:=a;dsimp only at hk;subst hk;obtain⟨W2,hW2,HBL,HSY,hqI,HSQ,⟨pn,cn,rfl⟩,⟨pk,ck,rfl⟩,pf,cf,rfl⟩:=s.opn 23 f t l o m x 29 44;refine opR λR HR=>?_;clear s;by_cases hq0:q=0
 ·subst hq0;go_enter Tryz.func38,Tryz.ntmps38;unfold fmv;go_wp2_with fail;rw[<-hW2];clear hW2;have B0:Below W2.heap.size W2 W2:=Below.refl _ _;obtain⟨c0,c1,c2,c3,c4,c5,c6,c7,c8,ct⟩:=(uh HSY).bz B0;go_wp2_with fail;refine((uh HSY).bare false true false false _ B0).mono ?_;rintro e w1 ⟨rfl,B1⟩;clear c0 c1 c2 c3 c4 c5 c6 c7 c8 ct;obtain⟨c0,c1,c2,c3,c4,c5,c6,c7,c8,ct⟩:=(uh HSY).bz B1;by_cases h1:br ⟨23,f,t,l,o,m,x⟩ p false true false false
  ·rw[dc_t h1];have HH1:=hid h1;clear h1;go_wp2_with fail;go_ret;exact⟨by rw[show R=_ from HR,dc_t ⟨(by first|rfl|trivial),HH1⟩];first|rfl|(simp[*];done),(uh HBL) _ B1⟩
  ·rw[dc_f h1];have HN9:=hid h1;clear h1;go_wp2_with fail;go_ret;exact⟨by rw[show R=_ from HR,dc_f (λg=>HN9 g.2)];first|rfl|(simp[*];done),(uh HBL) _ B1⟩
 ·have e0:((q:Int)==0)=false:=bne (by omega);have HN9:=hid hq0;clear hq0;go_enter Tryz.func38,Tryz.ntmps38;unfold fmv;go_wp2_with fail;go_ret;exact⟨rdf HR (λg=>HN9 g.1),bel2 _ _ _⟩
theorem xp_24{fl:ByteArray->Prop}(HFL:FlS fl)(s:Sx nm w v n F vn vk p A q K)(a:Fv)(hk:a.k=24):
  Calls Tryz.prog 38 #[.agg #[v],fmv a vn vk] w λe w'=>e=.returned (.bool (dc (q=0/\br a p false false true false/\fl a.x)))/\Below w.heap.size w w':=by
 obtain⟨k,f,t,l,o,m,x⟩:=a;dsimp only at hk;subst hk;obtain⟨W2,hW2,HBL,HSY,hqI,HSQ,⟨pn,cn,rfl⟩,⟨pk,ck,rfl⟩,pf,cf,rfl⟩:=s.opn 24 f t l o m x 29 44;refine opR λR HR=>?_;clear s;by_cases hq0:q=0
 ·subst hq0;go_enter Tryz.func38,Tryz.ntmps38;unfold fmv;go_wp2_with fail;rw[<-hW2];clear hW2;have B0:Below W2.heap.size W2 W2:=Below.refl _ _;obtain⟨c0,c1,c2,c3,c4,c5,c6,c7,c8,ct⟩:=(uh HSY).bz B0;go_wp2_with fail;refine((uh HSY).bare false false true false _ B0).mono ?_;rintro e w1 ⟨rfl,B1⟩;clear c0 c1 c2 c3 c4 c5 c6 c7 c8 ct;obtain⟨c0,c1,c2,c3,c4,c5,c6,c7,c8,ct⟩:=(uh HSY).bz B1;by_cases h1:br ⟨24,f,t,l,o,m,x⟩ p false false true false
  ·rw[dc_t h1];have HH1:=hid h1;clear h1;go_wp2_with fail;refine((((uh HFL) x _).mono λ_ _ h=>(⟨h.1,below_to B1 h.2⟩:_/\Below W2.heap.size W2 _))).mono ?_;rintro e w2 ⟨rfl,B2⟩;clear c0 c1 c2 c3 c4 c5 c6 c7 c8 ct;obtain⟨c0,c1,c2,c3,c4,c5,c6,c7,c8,ct⟩:=(uh HSY).bz B2;by_cases h2:fl x
   ·rw[dc_t h2];have HH2:=hid h2;clear h2;go_wp2_with fail;go_ret;exact⟨by rw[show R=_ from HR,dc_t ⟨(by first|rfl|trivial),HH1,HH2⟩];first|rfl|(simp[*];done),(uh HBL) _ B2⟩
   ·rw[dc_f h2];have HN9:=hid h2;clear h2;go_wp2_with fail;go_ret;exact⟨by rw[show R=_ from HR,dc_f (λg=>HN9 g.2.2)];first|rfl|(simp[*];done),(uh HBL) _ B2⟩
  ·rw[dc_f h1];have HN9:=hid h1;clear h1;go_wp2_with fail;go_ret;exact⟨by rw[show R=_ from HR,dc_f (λg=>HN9 g.2.1)];first|rfl|(simp[*];done),(uh HBL) _ B1⟩
 ·have e0:((q:Int)==0)=false:=bne (by omega);have HN9:=hid hq0;clear hq0;go_enter Tryz.func38,Tryz.ntmps38;unfold fmv;go_wp2_with fail;go_ret;exact⟨rdf HR (λg=>HN9 g.1),bel2 _ _ _⟩
theorem xp_25(s:Sx nm w v n F vn vk p A q K)(a:Fv)(hk:a.k=25):
  Calls Tryz.prog 38 #[.agg #[v],fmv a vn vk] w λe w'=>e=.returned (.bool (dc (q=0/\br a p false false true false/\a.x.size<=4000)))/\Below w.heap.size w w':=by
 obtain⟨k,f,t,l,o,m,x⟩:=a;dsimp only at hk;subst hk;obtain⟨W2,hW2,HBL,HSY,hqI,HSQ,⟨pn,cn,rfl⟩,⟨pk,ck,rfl⟩,pf,cf,rfl⟩:=s.opn 25 f t l o m x 29 44;refine opR λR HR=>?_;clear s;by_cases hq0:q=0
 ·subst hq0;go_enter Tryz.func38,Tryz.ntmps38;unfold fmv;go_wp2_with fail;rw[<-hW2];clear hW2;have B0:Below W2.heap.size W2 W2:=Below.refl _ _;obtain⟨c0,c1,c2,c3,c4,c5,c6,c7,c8,ct⟩:=(uh HSY).bz B0;go_wp2_with fail;refine((uh HSY).bare false false true false _ B0).mono ?_;rintro e w1 ⟨rfl,B1⟩;clear c0 c1 c2 c3 c4 c5 c6 c7 c8 ct;obtain⟨c0,c1,c2,c3,c4,c5,c6,c7,c8,ct⟩:=(uh HSY).bz B1;by_cases h1:br ⟨25,f,t,l,o,m,x⟩ p false false true false
  ·rw[dc_t h1];have HH1:=hid h1;clear h1;by_cases h2:x.size<=4000
   ·have ft2:=(by omega:(x.size:Int)<=4000)
    have HH2:=hid h2;clear h2;go_wp2_with fail;go_ret;exact⟨by rw[show R=_ from HR,dc_t ⟨(by first|rfl|trivial),HH1,HH2⟩];first|rfl|(simp[*];done),(uh HBL) _ B1⟩
   ·have ft2:=(by omega:¬(x.size:Int)<=4000)
    have HN9:=hid h2;clear h2;go_wp2_with fail;go_ret;exact⟨by rw[show R=_ from HR,dc_f (λg=>HN9 g.2.2)];first|rfl|(simp[*];done),(uh HBL) _ B1⟩
  ·rw[dc_f h1];have HN9:=hid h1;clear h1;go_wp2_with fail;go_ret;exact⟨by rw[show R=_ from HR,dc_f (λg=>HN9 g.2.1)];first|rfl|(simp[*];done),(uh HBL) _ B1⟩
 ·have e0:((q:Int)==0)=false:=bne (by omega);have HN9:=hid hq0;clear hq0;go_enter Tryz.func38,Tryz.ntmps38;unfold fmv;go_wp2_with fail;go_ret;exact⟨rdf HR (λg=>HN9 g.1),bel2 _ _ _⟩
theorem xp_26(s:Sx nm w v n F vn vk p A q K)(a:Fv)(hk:a.k=26):
  Calls Tryz.prog 38 #[.agg #[v],fmv a vn vk] w λe w'=>e=.returned (.bool (dc (q=0/\br a p false false true false/\nm a.x)))/\Below w.heap.size w w':=by
 obtain⟨k,f,t,l,o,m,x⟩:=a;dsimp only at hk;subst hk;obtain⟨W2,hW2,HBL,HSY,hqI,HSQ,⟨pn,cn,rfl⟩,⟨pk,ck,rfl⟩,pf,cf,rfl⟩:=s.opn 26 f t l o m x 29 44;refine opR λR HR=>?_;clear s;by_cases hq0:q=0
 ·subst hq0;go_enter Tryz.func38,Tryz.ntmps38;unfold fmv;go_wp2_with fail;rw[<-hW2];clear hW2;have B0:Below W2.heap.size W2 W2:=Below.refl _ _;obtain⟨c0,c1,c2,c3,c4,c5,c6,c7,c8,ct⟩:=(uh HSY).bz B0;go_wp2_with fail;refine((uh HSY).bare false false true false _ B0).mono ?_;rintro e w1 ⟨rfl,B1⟩;clear c0 c1 c2 c3 c4 c5 c6 c7 c8 ct;obtain⟨c0,c1,c2,c3,c4,c5,c6,c7,c8,ct⟩:=(uh HSY).bz B1;by_cases h1:br ⟨26,f,t,l,o,m,x⟩ p false false true false
  ·rw[dc_t h1];have HH1:=hid h1;clear h1;go_wp2_with fail;refine((((uh HSY).hn x _).mono λ_ _ h=>(⟨h.1,below_to B1 h.2⟩:_/\Below W2.heap.size W2 _))).mono ?_;rintro e w2 ⟨rfl,B2⟩;clear c0 c1 c2 c3 c4 c5 c6 c7 c8 ct;obtain⟨c0,c1,c2,c3,c4,c5,c6,c7,c8,ct⟩:=(uh HSY).bz B2;by_cases h2:nm x
   ·rw[dc_t h2];have HH2:=hid h2;clear h2;go_wp2_with fail;go_ret;exact⟨by rw[show R=_ from HR,dc_t ⟨(by first|rfl|trivial),HH1,HH2⟩];first|rfl|(simp[*];done),(uh HBL) _ B2⟩
   ·rw[dc_f h2];have HN9:=hid h2;clear h2;go_wp2_with fail;go_ret;exact⟨by rw[show R=_ from HR,dc_f (λg=>HN9 g.2.2)];first|rfl|(simp[*];done),(uh HBL) _ B2⟩
  ·rw[dc_f h1];have HN9:=hid h1;clear h1;go_wp2_with fail;go_ret;exact⟨by rw[show R=_ from HR,dc_f (λg=>HN9 g.2.1)];first|rfl|(simp[*];done),(uh HBL) _ B1⟩
 ·have e0:((q:Int)==0)=false:=bne (by omega);have HN9:=hid hq0;clear hq0;go_enter Tryz.func38,Tryz.ntmps38;unfold fmv;go_wp2_with fail;go_ret;exact⟨rdf HR (λg=>HN9 g.1),bel2 _ _ _⟩
theorem xp_30(s:Sx nm w v n F vn vk p A q K)(a:Fv)(hk:a.k=30):
  Calls Tryz.prog 38 #[.agg #[v],fmv a vn vk] w λe w'=>e=.returned (.bool (dc (q=1/\ex F K 0 1/\br a p true false false false/\19<=a.o/\a.o<=22)))/\Below w.heap.size w w':=by
 obtain⟨k,f,t,l,o,m,x⟩:=a;dsimp only at hk;subst hk;obtain⟨W2,hW2,HBL,HSY,hqI,HSQ,⟨pn,cn,rfl⟩,⟨pk,ck,rfl⟩,pf,cf,rfl⟩:=s.opn 30 f t l o m x 29 44;refine opR λR HR=>?_;clear s;by_cases hq0:q=1
 ·subst hq0;go_enter Tryz.func38,Tryz.ntmps38;unfold fmv;go_wp2_with fail;rw[<-hW2];clear hW2;have B0:Below W2.heap.size W2 W2:=Below.refl _ _;obtain⟨c0,c1,c2,c3,c4,c5,c6,c7,c8,ct⟩:=(uh HSY).bz B0;go_wp2_with fail;refine((uh HSY).exprs _ _ 0 1 rfl (by first|rfl|omega) (by omega) (by omega) _ B0).mono ?_;rintro e w1 ⟨rfl,B1⟩;clear c0 c1 c2 c3 c4 c5 c6 c7 c8 ct;obtain⟨c0,c1,c2,c3,c4,c5,c6,c7,c8,ct⟩:=(uh HSY).bz B1;by_cases h1:ex F K 0 1
  ·rw[dc_t h1];have HH1:=hid h1;clear h1;go_wp2_with fail;refine((uh HSY).bare true false false false _ B1).mono ?_;rintro e w2 ⟨rfl,B2⟩;clear c0 c1 c2 c3 c4 c5 c6 c7 c8 ct;obtain⟨c0,c1,c2,c3,c4,c5,c6,c7,c8,ct⟩:=(uh HSY).bz B2;by_cases h2:br ⟨30,f,t,l,o,m,x⟩ p true false false false
   ·rw[dc_t h2];have HH2:=hid h2;clear h2;by_cases h3:19<=o
    ·have ft3:=h3;have HH3:Hid (19<=o):=h3;by_cases h4:o<=22
     ·have ft4:=h4;have HH4:Hid (o<=22):=h4;go_wp2_with fail;go_ret;exact⟨by rw[show R=_ from HR,dc_t ⟨(by first|rfl|trivial),HH1,HH2,HH3,HH4⟩];first|rfl|(simp[*];done),(uh HBL) _ B2⟩
     ·have ft4:=h4;have HN9:Hid (Nt (o<=22)):=h4;go_wp2_with fail;go_ret;exact⟨by rw[show R=_ from HR,dc_f (λg=>HN9 g.2.2.2.2)];first|rfl|(simp[*];done),(uh HBL) _ B2⟩
    ·have ft3:=h3;have HN9:Hid (Nt (19<=o)):=h3;go_wp2_with fail;go_ret;exact⟨by rw[show R=_ from HR,dc_f (λg=>HN9 g.2.2.2.1)];first|rfl|(simp[*];done),(uh HBL) _ B2⟩
   ·rw[dc_f h2];have HN9:=hid h2;clear h2;go_wp2_with fail;go_ret;exact⟨by rw[show R=_ from HR,dc_f (λg=>HN9 g.2.2.1)];first|rfl|(simp[*];done),(uh HBL) _ B2⟩
  ·rw[dc_f h1];have HN9:=hid h1;clear h1;go_wp2_with fail;go_ret;exact⟨by rw[show R=_ from HR,dc_f (λg=>HN9 g.2.1)];first|rfl|(simp[*];done),(uh HBL) _ B1⟩
 ·have e0:((q:Int)==1)=false:=bne (by omega);have HN9:=hid hq0;clear hq0;go_enter Tryz.func38,Tryz.ntmps38;unfold fmv;go_wp2_with fail;go_ret;exact⟨rdf HR (λg=>HN9 g.1),bel2 _ _ _⟩
theorem xp_31(s:Sx nm w v n F vn vk p A q K)(a:Fv)(hk:a.k=31):
  Calls Tryz.prog 38 #[.agg #[v],fmv a vn vk] w λe w'=>e=.returned (.bool (dc (q=2/\ex F K 0 2/\br a p true false false false/\1<=a.o/\a.o<=18)))/\Below w.heap.size w w':=by
 obtain⟨k,f,t,l,o,m,x⟩:=a;dsimp only at hk;subst hk;obtain⟨W2,hW2,HBL,HSY,hqI,HSQ,⟨pn,cn,rfl⟩,⟨pk,ck,rfl⟩,pf,cf,rfl⟩:=s.opn 31 f t l o m x 29 44;refine opR λR HR=>?_;clear s;by_cases hq0:q=2
 ·subst hq0;go_enter Tryz.func38,Tryz.ntmps38;unfold fmv;go_wp2_with fail;rw[<-hW2];clear hW2;have B0:Below W2.heap.size W2 W2:=Below.refl _ _;obtain⟨c0,c1,c2,c3,c4,c5,c6,c7,c8,ct⟩:=(uh HSY).bz B0;go_wp2_with fail;refine((uh HSY).exprs _ _ 0 2 rfl (by first|rfl|omega) (by omega) (by omega) _ B0).mono ?_;rintro e w1 ⟨rfl,B1⟩;clear c0 c1 c2 c3 c4 c5 c6 c7 c8 ct;obtain⟨c0,c1,c2,c3,c4,c5,c6,c7,c8,ct⟩:=(uh HSY).bz B1;by_cases h1:ex F K 0 2
  ·rw[dc_t h1];have HH1:=hid h1;clear h1;go_wp2_with fail;refine((uh HSY).bare true false false false _ B1).mono ?_;rintro e w2 ⟨rfl,B2⟩;clear c0 c1 c2 c3 c4 c5 c6 c7 c8 ct;obtain⟨c0,c1,c2,c3,c4,c5,c6,c7,c8,ct⟩:=(uh HSY).bz B2;by_cases h2:br ⟨31,f,t,l,o,m,x⟩ p true false false false
   ·rw[dc_t h2];have HH2:=hid h2;clear h2;by_cases h3:1<=o
    ·have ft3:=h3;have HH3:Hid (1<=o):=h3;by_cases h4:o<=18
     ·have ft4:=h4;have HH4:Hid (o<=18):=h4;go_wp2_with fail;go_ret;exact⟨by rw[show R=_ from HR,dc_t ⟨(by first|rfl|trivial),HH1,HH2,HH3,HH4⟩];first|rfl|(simp[*];done),(uh HBL) _ B2⟩
     ·have ft4:=h4;have HN9:Hid (Nt (o<=18)):=h4;go_wp2_with fail;go_ret;exact⟨by rw[show R=_ from HR,dc_f (λg=>HN9 g.2.2.2.2)];first|rfl|(simp[*];done),(uh HBL) _ B2⟩
    ·have ft3:=h3;have HN9:Hid (Nt (1<=o)):=h3;go_wp2_with fail;go_ret;exact⟨by rw[show R=_ from HR,dc_f (λg=>HN9 g.2.2.2.1)];first|rfl|(simp[*];done),(uh HBL) _ B2⟩
   ·rw[dc_f h2];have HN9:=hid h2;clear h2;go_wp2_with fail;go_ret;exact⟨by rw[show R=_ from HR,dc_f (λg=>HN9 g.2.2.1)];first|rfl|(simp[*];done),(uh HBL) _ B2⟩
  ·rw[dc_f h1];have HN9:=hid h1;clear h1;go_wp2_with fail;go_ret;exact⟨by rw[show R=_ from HR,dc_f (λg=>HN9 g.2.1)];first|rfl|(simp[*];done),(uh HBL) _ B1⟩
 ·have e0:((q:Int)==2)=false:=bne (by omega);have HN9:=hid hq0;clear hq0;go_enter Tryz.func38,Tryz.ntmps38;unfold fmv;go_wp2_with fail;go_ret;exact⟨rdf HR (λg=>HN9 g.1),bel2 _ _ _⟩
theorem xp_36(s:Sx nm w v n F vn vk p A q K)(a:Fv)(hk:a.k=36):
  Calls Tryz.prog 38 #[.agg #[v],fmv a vn vk] w λe w'=>e=.returned (.bool (dc (q=1/\kdk F K 0=1/\br a p true false false true/\nd nm p A 0 200/\(a.o=0\/a.o=1))))/\Below w.heap.size w w':=by
 obtain⟨k,f,t,l,o,m,x⟩:=a;dsimp only at hk;subst hk;obtain⟨W2,hW2,HBL,HSY,hqI,HSQ,⟨pn,cn,rfl⟩,⟨pk,ck,rfl⟩,pf,cf,rfl⟩:=s.opn 36 f t l o m x 29 44;refine opR λR HR=>?_;clear s;by_cases hq0:q=1
 ·subst hq0;go_enter Tryz.func38,Tryz.ntmps38;unfold fmv;go_wp2_with fail;rw[<-hW2];clear hW2;have B0:Below W2.heap.size W2 W2:=Below.refl _ _;obtain⟨c0,c1,c2,c3,c4,c5,c6,c7,c8,ct⟩:=(uh HSY).bz B0;go_wp2_with fail;refine((uh HSY).kid _ 0 (by first|rfl|omega) (by first|omega|(have:=(uh HQG);omega)) _ B0).mono ?_;rintro e w1 ⟨rfl,B1⟩;clear c0 c1 c2 c3 c4 c5 c6 c7 c8 ct;obtain⟨c0,c1,c2,c3,c4,c5,c6,c7,c8,ct⟩:=(uh HSY).bz B1;by_cases h1:kdk F K 0=1
  ·have ek1:=beq1 h1;have HH1:=hid h1;clear h1;go_wp2_with fail;refine((uh HSY).bare true false false true _ B1).mono ?_;rintro e w2 ⟨rfl,B2⟩;clear c0 c1 c2 c3 c4 c5 c6 c7 c8 ct;obtain⟨c0,c1,c2,c3,c4,c5,c6,c7,c8,ct⟩:=(uh HSY).bz B2;by_cases h2:br ⟨36,f,t,l,o,m,x⟩ p true false false true
   ·rw[dc_t h2];have HH2:=hid h2;clear h2;go_wp2_with fail;refine((uh HSY).named 0 200 (by omega) (by omega) _ B2).mono ?_;rintro e w3 ⟨rfl,B3⟩;clear c0 c1 c2 c3 c4 c5 c6 c7 c8 ct;obtain⟨c0,c1,c2,c3,c4,c5,c6,c7,c8,ct⟩:=(uh HSY).bz B3;by_cases h3:nd nm p A 0 200
    ·rw[dc_t h3];have HH3:=hid h3;clear h3;by_cases h40:o=0
     ·have ft40:=beq1 h40;have HH4:Hid (o=0\/o=1):=(by omega:o=0\/o=1)
      clear h40;go_wp2_with fail;go_ret;exact⟨by rw[show R=_ from HR,dc_t ⟨(by first|rfl|trivial),HH1,HH2,HH3,HH4⟩];first|rfl|(simp[*];done),(uh HBL) _ B3⟩
     ·have ft40:=bne h40;by_cases h41:o=1
      ·have ft41:=beq1 h41;have HH4:Hid (o=0\/o=1):=(by omega:o=0\/o=1)
       clear h41 h40;go_wp2_with fail;go_ret;exact⟨by rw[show R=_ from HR,dc_t ⟨(by first|rfl|trivial),HH1,HH2,HH3,HH4⟩];first|rfl|(simp[*];done),(uh HBL) _ B3⟩
      ·have ft41:=bne h41;have HN9:Hid (Nt (o=0\/o=1)):=(by omega:¬(o=0\/o=1))
       clear h40 h41;go_wp2_with fail;go_ret;exact⟨by rw[show R=_ from HR,dc_f (λg=>HN9 g.2.2.2.2)];first|rfl|(simp[*];done),(uh HBL) _ B3⟩
    ·rw[dc_f h3];have HN9:=hid h3;clear h3;go_wp2_with fail;go_ret;exact⟨by rw[show R=_ from HR,dc_f (λg=>HN9 g.2.2.2.1)];first|rfl|(simp[*];done),(uh HBL) _ B3⟩
   ·rw[dc_f h2];have HN9:=hid h2;clear h2;go_wp2_with fail;go_ret;exact⟨by rw[show R=_ from HR,dc_f (λg=>HN9 g.2.2.1)];first|rfl|(simp[*];done),(uh HBL) _ B2⟩
  ·have ek1:=bne h1;have HN9:=hid h1;clear h1;go_wp2_with fail;go_ret;exact⟨by rw[show R=_ from HR,dc_f (λg=>HN9 g.2.1)];first|rfl|(simp[*];done),(uh HBL) _ B1⟩
 ·have e0:((q:Int)==1)=false:=bne (by omega);have HN9:=hid hq0;clear hq0;go_enter Tryz.func38,Tryz.ntmps38;unfold fmv;go_wp2_with fail;go_ret;exact⟨rdf HR (λg=>HN9 g.1),bel2 _ _ _⟩
theorem xp_37(s:Sx nm w v n F vn vk p A q K)(a:Fv)(hk:a.k=37):
  Calls Tryz.prog 38 #[.agg #[v],fmv a vn vk] w λe w'=>e=.returned (.bool (dc (q=1/\(kdk F K 0=34\/kdk F K 0=27)/\br a p false false false false)))/\Below w.heap.size w w':=by
 obtain⟨k,f,t,l,o,m,x⟩:=a;dsimp only at hk;subst hk;obtain⟨W2,hW2,HBL,HSY,hqI,HSQ,⟨pn,cn,rfl⟩,⟨pk,ck,rfl⟩,pf,cf,rfl⟩:=s.opn 37 f t l o m x 29 44;refine opR λR HR=>?_;clear s;by_cases hq0:q=1
 ·subst hq0;go_enter Tryz.func38,Tryz.ntmps38;unfold fmv;go_wp2_with fail;rw[<-hW2];clear hW2;have B0:Below W2.heap.size W2 W2:=Below.refl _ _;obtain⟨c0,c1,c2,c3,c4,c5,c6,c7,c8,ct⟩:=(uh HSY).bz B0;go_wp2_with fail;refine((uh HSY).kid _ 0 (by first|rfl|omega) (by omega) _ B0).mono ?_;rintro e w1 ⟨rfl,B1⟩;clear c0 c1 c2 c3 c4 c5 c6 c7 c8 ct;obtain⟨c0,c1,c2,c3,c4,c5,c6,c7,c8,ct⟩:=(uh HSY).bz B1;by_cases h10:kdk F K 0=34
  ·have ek10:=beq1 h10;have HH1:Hid ((kdk F K 0=34\/kdk F K 0=27)):=Or.inl h10;clear h10;go_wp2_with fail;refine((uh HSY).bare false false false false _ B1).mono ?_;rintro e w2 ⟨rfl,B2⟩;clear c0 c1 c2 c3 c4 c5 c6 c7 c8 ct;obtain⟨c0,c1,c2,c3,c4,c5,c6,c7,c8,ct⟩:=(uh HSY).bz B2;by_cases h2:br ⟨37,f,t,l,o,m,x⟩ p false false false false
   ·rw[dc_t h2];have HH2:=hid h2;clear h2;go_wp2_with fail;go_ret;exact⟨by rw[show R=_ from HR,dc_t ⟨(by first|rfl|trivial),HH1,HH2⟩];first|rfl|(simp[*];done),(uh HBL) _ B2⟩
   ·rw[dc_f h2];have HN9:=hid h2;clear h2;go_wp2_with fail;go_ret;exact⟨by rw[show R=_ from HR,dc_f (λg=>HN9 g.2.2)];first|rfl|(simp[*];done),(uh HBL) _ B2⟩
  ·have ek10:=bne h10;go_wp2_with fail;refine((uh HSY).kid _ 0 (by first|rfl|omega) (by omega) _ B1).mono ?_;rintro e w2 ⟨rfl,B2⟩;clear c0 c1 c2 c3 c4 c5 c6 c7 c8 ct;obtain⟨c0,c1,c2,c3,c4,c5,c6,c7,c8,ct⟩:=(uh HSY).bz B2;by_cases h11:kdk F K 0=27
   ·have ek11:=beq1 h11;have HH1:Hid ((kdk F K 0=34\/kdk F K 0=27)):=Or.inr h11;clear h11 h10;go_wp2_with fail;refine((uh HSY).bare false false false false _ B2).mono ?_;rintro e w3 ⟨rfl,B3⟩;clear c0 c1 c2 c3 c4 c5 c6 c7 c8 ct;obtain⟨c0,c1,c2,c3,c4,c5,c6,c7,c8,ct⟩:=(uh HSY).bz B3;by_cases h2:br ⟨37,f,t,l,o,m,x⟩ p false false false false
    ·rw[dc_t h2];have HH2:=hid h2;clear h2;go_wp2_with fail;go_ret;exact⟨by rw[show R=_ from HR,dc_t ⟨(by first|rfl|trivial),HH1,HH2⟩];first|rfl|(simp[*];done),(uh HBL) _ B3⟩
    ·rw[dc_f h2];have HN9:=hid h2;clear h2;go_wp2_with fail;go_ret;exact⟨by rw[show R=_ from HR,dc_f (λg=>HN9 g.2.2)];first|rfl|(simp[*];done),(uh HBL) _ B3⟩
   ·have ek11:=bne h11;have HN9:Hid (Nt (kdk F K 0=34\/kdk F K 0=27)):=(λg=>g.elim h10 h11:¬_)
    clear h10 h11;go_wp2_with fail;go_ret;exact⟨by rw[show R=_ from HR,dc_f (λg=>HN9 g.2.1)];first|rfl|(simp[*];done),(uh HBL) _ B2⟩
 ·have e0:((q:Int)==1)=false:=bne (by omega);have HN9:=hid hq0;clear hq0;go_enter Tryz.func38,Tryz.ntmps38;unfold fmv;go_wp2_with fail;go_ret;exact⟨rdf HR (λg=>HN9 g.1),bel2 _ _ _⟩
theorem xp_28(s:Sx nm w v n F vn vk p A q K)(a:Fv)(hk:a.k=28):
  Calls Tryz.prog 38 #[.agg #[v],fmv a vn vk] w λe w'=>e=.returned (.bool (dc (q=2/\ex F K 0 2/\br a p false false false false)))/\Below w.heap.size w w':=by
 obtain⟨k,f,t,l,o,m,x⟩:=a;dsimp only at hk;subst hk;obtain⟨W2,hW2,HBL,HSY,hqI,HSQ,⟨pn,cn,rfl⟩,⟨pk,ck,rfl⟩,pf,cf,rfl⟩:=s.opn 28 f t l o m x 29 44;refine opR λR HR=>?_;clear s;by_cases hq0:q=2
 ·subst hq0;go_enter Tryz.func38,Tryz.ntmps38;unfold fmv;go_wp2_with fail;rw[<-hW2];clear hW2;have B0:Below W2.heap.size W2 W2:=Below.refl _ _;obtain⟨c0,c1,c2,c3,c4,c5,c6,c7,c8,ct⟩:=(uh HSY).bz B0;go_wp2_with fail;refine((uh HSY).exprs _ _ 0 2 rfl (by first|rfl|omega) (by omega) (by omega) _ B0).mono ?_;rintro e w1 ⟨rfl,B1⟩;clear c0 c1 c2 c3 c4 c5 c6 c7 c8 ct;obtain⟨c0,c1,c2,c3,c4,c5,c6,c7,c8,ct⟩:=(uh HSY).bz B1;by_cases h1:ex F K 0 2
  ·rw[dc_t h1];have HH1:=hid h1;clear h1;go_wp2_with fail;refine((uh HSY).bare false false false false _ B1).mono ?_;rintro e w2 ⟨rfl,B2⟩;clear c0 c1 c2 c3 c4 c5 c6 c7 c8 ct;obtain⟨c0,c1,c2,c3,c4,c5,c6,c7,c8,ct⟩:=(uh HSY).bz B2;by_cases h2:br ⟨28,f,t,l,o,m,x⟩ p false false false false
   ·rw[dc_t h2];have HH2:=hid h2;clear h2;go_wp2_with fail;go_ret;exact⟨by rw[show R=_ from HR,dc_t ⟨(by first|rfl|trivial),HH1,HH2⟩];first|rfl|(simp[*];done),(uh HBL) _ B2⟩
   ·rw[dc_f h2];have HN9:=hid h2;clear h2;go_wp2_with fail;go_ret;exact⟨by rw[show R=_ from HR,dc_f (λg=>HN9 g.2.2)];first|rfl|(simp[*];done),(uh HBL) _ B2⟩
  ·rw[dc_f h1];have HN9:=hid h1;clear h1;go_wp2_with fail;go_ret;exact⟨by rw[show R=_ from HR,dc_f (λg=>HN9 g.2.1)];first|rfl|(simp[*];done),(uh HBL) _ B1⟩
 ·have e0:((q:Int)==2)=false:=bne (by omega);have HN9:=hid hq0;clear hq0;go_enter Tryz.func38,Tryz.ntmps38;unfold fmv;go_wp2_with fail;go_ret;exact⟨rdf HR (λg=>HN9 g.1),bel2 _ _ _⟩
theorem xp_32(s:Sx nm w v n F vn vk p A q K)(a:Fv)(hk:a.k=32):
  Calls Tryz.prog 38 #[.agg #[v],fmv a vn vk] w λe w'=>e=.returned (.bool (dc (q=2/\ex F K 0 2/\kdk F K 0≠27/\br a p false false false false)))/\Below w.heap.size w w':=by
 obtain⟨k,f,t,l,o,m,x⟩:=a;dsimp only at hk;subst hk;obtain⟨W2,hW2,HBL,HSY,hqI,HSQ,⟨pn,cn,rfl⟩,⟨pk,ck,rfl⟩,pf,cf,rfl⟩:=s.opn 32 f t l o m x 29 44;refine opR λR HR=>?_;clear s;by_cases hq0:q=2
 ·subst hq0;go_enter Tryz.func38,Tryz.ntmps38;unfold fmv;go_wp2_with fail;rw[<-hW2];clear hW2;have B0:Below W2.heap.size W2 W2:=Below.refl _ _;obtain⟨c0,c1,c2,c3,c4,c5,c6,c7,c8,ct⟩:=(uh HSY).bz B0;go_wp2_with fail;refine((uh HSY).exprs _ _ 0 2 rfl (by first|rfl|omega) (by omega) (by omega) _ B0).mono ?_;rintro e w1 ⟨rfl,B1⟩;clear c0 c1 c2 c3 c4 c5 c6 c7 c8 ct;obtain⟨c0,c1,c2,c3,c4,c5,c6,c7,c8,ct⟩:=(uh HSY).bz B1;by_cases h1:ex F K 0 2
  ·rw[dc_t h1];have HH1:=hid h1;clear h1;go_wp2_with fail;refine((uh HSY).kid _ 0 (by first|rfl|omega) (by first|omega|(have:=(uh HQG);omega)) _ B1).mono ?_;rintro e w2 ⟨rfl,B2⟩;clear c0 c1 c2 c3 c4 c5 c6 c7 c8 ct;obtain⟨c0,c1,c2,c3,c4,c5,c6,c7,c8,ct⟩:=(uh HSY).bz B2;by_cases h2:kdk F K 0≠27
   ·have ek2:=bne h2;have HH2:=hid h2;clear h2;go_wp2_with fail;refine((uh HSY).bare false false false false _ B2).mono ?_;rintro e w3 ⟨rfl,B3⟩;clear c0 c1 c2 c3 c4 c5 c6 c7 c8 ct;obtain⟨c0,c1,c2,c3,c4,c5,c6,c7,c8,ct⟩:=(uh HSY).bz B3;by_cases h3:br ⟨32,f,t,l,o,m,x⟩ p false false false false
    ·rw[dc_t h3];have HH3:=hid h3;clear h3;go_wp2_with fail;go_ret;exact⟨by rw[show R=_ from HR,dc_t ⟨(by first|rfl|trivial),HH1,HH2,HH3⟩];first|rfl|(simp[*];done),(uh HBL) _ B3⟩
    ·rw[dc_f h3];have HN9:=hid h3;clear h3;go_wp2_with fail;go_ret;exact⟨by rw[show R=_ from HR,dc_f (λg=>HN9 g.2.2.2)];first|rfl|(simp[*];done),(uh HBL) _ B3⟩
   ·have ek2:=beq1 (Decidable.not_not.1 h2);have HN9:=hid h2;clear h2;go_wp2_with fail;go_ret;exact⟨by rw[show R=_ from HR,dc_f (λg=>HN9 g.2.2.1)];first|rfl|(simp[*];done),(uh HBL) _ B2⟩
  ·rw[dc_f h1];have HN9:=hid h1;clear h1;go_wp2_with fail;go_ret;exact⟨by rw[show R=_ from HR,dc_f (λg=>HN9 g.2.1)];first|rfl|(simp[*];done),(uh HBL) _ B1⟩
 ·have e0:((q:Int)==2)=false:=bne (by omega);have HN9:=hid hq0;clear hq0;go_enter Tryz.func38,Tryz.ntmps38;unfold fmv;go_wp2_with fail;go_ret;exact⟨rdf HR (λg=>HN9 g.1),bel2 _ _ _⟩
theorem xp_33(s:Sx nm w v n F vn vk p A q K)(a:Fv)(hk:a.k=33):
  Calls Tryz.prog 38 #[.agg #[v],fmv a vn vk] w λe w'=>e=.returned (.bool (dc (q=1/\ex F K 0 1/\kdk F K 0≠27/\br a p false false true false/\nm a.x)))/\Below w.heap.size w w':=by
 obtain⟨k,f,t,l,o,m,x⟩:=a;dsimp only at hk;subst hk;obtain⟨W2,hW2,HBL,HSY,hqI,HSQ,⟨pn,cn,rfl⟩,⟨pk,ck,rfl⟩,pf,cf,rfl⟩:=s.opn 33 f t l o m x 29 44;refine opR λR HR=>?_;clear s;by_cases hq0:q=1
 ·subst hq0;go_enter Tryz.func38,Tryz.ntmps38;unfold fmv;go_wp2_with fail;rw[<-hW2];clear hW2;have B0:Below W2.heap.size W2 W2:=Below.refl _ _;obtain⟨c0,c1,c2,c3,c4,c5,c6,c7,c8,ct⟩:=(uh HSY).bz B0;go_wp2_with fail;refine((uh HSY).exprs _ _ 0 1 rfl (by first|rfl|omega) (by omega) (by omega) _ B0).mono ?_;rintro e w1 ⟨rfl,B1⟩;clear c0 c1 c2 c3 c4 c5 c6 c7 c8 ct;obtain⟨c0,c1,c2,c3,c4,c5,c6,c7,c8,ct⟩:=(uh HSY).bz B1;by_cases h1:ex F K 0 1
  ·rw[dc_t h1];have HH1:=hid h1;clear h1;go_wp2_with fail;refine((uh HSY).kid _ 0 (by first|rfl|omega) (by first|omega|(have:=(uh HQG);omega)) _ B1).mono ?_;rintro e w2 ⟨rfl,B2⟩;clear c0 c1 c2 c3 c4 c5 c6 c7 c8 ct;obtain⟨c0,c1,c2,c3,c4,c5,c6,c7,c8,ct⟩:=(uh HSY).bz B2;by_cases h2:kdk F K 0≠27
   ·have ek2:=bne h2;have HH2:=hid h2;clear h2;go_wp2_with fail;refine((uh HSY).bare false false true false _ B2).mono ?_;rintro e w3 ⟨rfl,B3⟩;clear c0 c1 c2 c3 c4 c5 c6 c7 c8 ct;obtain⟨c0,c1,c2,c3,c4,c5,c6,c7,c8,ct⟩:=(uh HSY).bz B3;by_cases h3:br ⟨33,f,t,l,o,m,x⟩ p false false true false
    ·rw[dc_t h3];have HH3:=hid h3;clear h3;go_wp2_with fail;refine((((uh HSY).hn x _).mono λ_ _ h=>(⟨h.1,below_to B3 h.2⟩:_/\Below W2.heap.size W2 _))).mono ?_;rintro e w4 ⟨rfl,B4⟩;clear c0 c1 c2 c3 c4 c5 c6 c7 c8 ct;obtain⟨c0,c1,c2,c3,c4,c5,c6,c7,c8,ct⟩:=(uh HSY).bz B4;by_cases h4:nm x
     ·rw[dc_t h4];have HH4:=hid h4;clear h4;go_wp2_with fail;go_ret;exact⟨by rw[show R=_ from HR,dc_t ⟨(by first|rfl|trivial),HH1,HH2,HH3,HH4⟩];first|rfl|(simp[*];done),(uh HBL) _ B4⟩
     ·rw[dc_f h4];have HN9:=hid h4;clear h4;go_wp2_with fail;go_ret;exact⟨by rw[show R=_ from HR,dc_f (λg=>HN9 g.2.2.2.2)];first|rfl|(simp[*];done),(uh HBL) _ B4⟩
    ·rw[dc_f h3];have HN9:=hid h3;clear h3;go_wp2_with fail;go_ret;exact⟨by rw[show R=_ from HR,dc_f (λg=>HN9 g.2.2.2.1)];first|rfl|(simp[*];done),(uh HBL) _ B3⟩
   ·have ek2:=beq1 (Decidable.not_not.1 h2);have HN9:=hid h2;clear h2;go_wp2_with fail;go_ret;exact⟨by rw[show R=_ from HR,dc_f (λg=>HN9 g.2.2.1)];first|rfl|(simp[*];done),(uh HBL) _ B2⟩
  ·rw[dc_f h1];have HN9:=hid h1;clear h1;go_wp2_with fail;go_ret;exact⟨by rw[show R=_ from HR,dc_f (λg=>HN9 g.2.1)];first|rfl|(simp[*];done),(uh HBL) _ B1⟩
 ·have e0:((q:Int)==1)=false:=bne (by omega);have HN9:=hid hq0;clear hq0;go_enter Tryz.func38,Tryz.ntmps38;unfold fmv;go_wp2_with fail;go_ret;exact⟨rdf HR (λg=>HN9 g.1),bel2 _ _ _⟩
theorem xp_34(s:Sx nm w v n F vn vk p A q K)(a:Fv)(hk:a.k=34):
  Calls Tryz.prog 38 #[.agg #[v],fmv a vn vk] w λe w'=>e=.returned (.bool (dc (1<=q/\ex F K 0 q/\kdk F K 0≠27/\br a p false false false false)))/\Below w.heap.size w w':=by
 obtain⟨k,f,t,l,o,m,x⟩:=a;dsimp only at hk;subst hk;obtain⟨W2,hW2,HBL,HSY,hqI,HSQ,⟨pn,cn,rfl⟩,⟨pk,ck,rfl⟩,pf,cf,rfl⟩:=s.opn 34 f t l o m x 29 44;refine opR λR HR=>?_;clear s;by_cases h0:1<=q
 ·have ft0:(1:Int)<=(q:Int):=by omega
  have HH0:Hid (1<=q):=h0;have HQG:Hid (1<=q):=h0;clear h0;go_enter Tryz.func38,Tryz.ntmps38;unfold fmv;go_wp2_with fail;rw[<-hW2];clear hW2;have B0:Below W2.heap.size W2 W2:=Below.refl _ _;obtain⟨c0,c1,c2,c3,c4,c5,c6,c7,c8,ct⟩:=(uh HSY).bz B0;go_wp2_with fail;refine((uh HSY).exprs _ _ 0 q rfl (by first|rfl|omega) (by omega) (by omega) _ B0).mono ?_;rintro e w1 ⟨rfl,B1⟩;clear c0 c1 c2 c3 c4 c5 c6 c7 c8 ct;obtain⟨c0,c1,c2,c3,c4,c5,c6,c7,c8,ct⟩:=(uh HSY).bz B1;by_cases h1:ex F K 0 q
  ·rw[dc_t h1];have HH1:=hid h1;clear h1;go_wp2_with fail;refine((uh HSY).kid _ 0 (by first|rfl|omega) (by first|omega|(have:=(uh HQG);omega)) _ B1).mono ?_;rintro e w2 ⟨rfl,B2⟩;clear c0 c1 c2 c3 c4 c5 c6 c7 c8 ct;obtain⟨c0,c1,c2,c3,c4,c5,c6,c7,c8,ct⟩:=(uh HSY).bz B2;by_cases h2:kdk F K 0≠27
   ·have ek2:=bne h2;have HH2:=hid h2;clear h2;go_wp2_with fail;refine((uh HSY).bare false false false false _ B2).mono ?_;rintro e w3 ⟨rfl,B3⟩;clear c0 c1 c2 c3 c4 c5 c6 c7 c8 ct;obtain⟨c0,c1,c2,c3,c4,c5,c6,c7,c8,ct⟩:=(uh HSY).bz B3;by_cases h3:br ⟨34,f,t,l,o,m,x⟩ p false false false false
    ·rw[dc_t h3];have HH3:=hid h3;clear h3;go_wp2_with fail;go_ret;exact⟨by rw[show R=_ from HR,dc_t ⟨HH0,HH1,HH2,HH3⟩];first|rfl|(simp[*];done),(uh HBL) _ B3⟩
    ·rw[dc_f h3];have HN9:=hid h3;clear h3;go_wp2_with fail;go_ret;exact⟨by rw[show R=_ from HR,dc_f (λg=>HN9 g.2.2.2)];first|rfl|(simp[*];done),(uh HBL) _ B3⟩
   ·have ek2:=beq1 (Decidable.not_not.1 h2);have HN9:=hid h2;clear h2;go_wp2_with fail;go_ret;exact⟨by rw[show R=_ from HR,dc_f (λg=>HN9 g.2.2.1)];first|rfl|(simp[*];done),(uh HBL) _ B2⟩
  ·rw[dc_f h1];have HN9:=hid h1;clear h1;go_wp2_with fail;go_ret;exact⟨by rw[show R=_ from HR,dc_f (λg=>HN9 g.2.1)];first|rfl|(simp[*];done),(uh HBL) _ B1⟩
 ·have e0:¬(1:Int)<=(q:Int):=by omega
  have HN9:=hid h0;clear h0;go_enter Tryz.func38,Tryz.ntmps38;unfold fmv;go_wp2_with fail;go_ret;exact⟨rdf HR (λg=>HN9 g.1),bel2 _ _ _⟩
theorem xp_21(s:Sx nm w v n F vn vk p A q K)(a:Fv)(hk:a.k=21):
  Calls Tryz.prog 38 #[.agg #[v],fmv a vn vk] w λe w'=>e=.returned (.bool (dc (q=0/\br a p false false false false)))/\Below w.heap.size w w':=by
 obtain⟨k,f,t,l,o,m,x⟩:=a;dsimp only at hk;subst hk;obtain⟨W2,hW2,HBL,HSY,hqI,HSQ,⟨pn,cn,rfl⟩,⟨pk,ck,rfl⟩,pf,cf,rfl⟩:=s.opn 21 f t l o m x 29 44;refine opR λR HR=>?_;clear s;by_cases hq0:q=0
 ·subst hq0;go_enter Tryz.func38,Tryz.ntmps38;unfold fmv;go_wp2_with fail;rw[<-hW2];clear hW2;have B0:Below W2.heap.size W2 W2:=Below.refl _ _;obtain⟨c0,c1,c2,c3,c4,c5,c6,c7,c8,ct⟩:=(uh HSY).bz B0;go_wp2_with fail;refine((uh HSY).bare false false false false _ B0).mono ?_;rintro e w1 ⟨rfl,B1⟩;clear c0 c1 c2 c3 c4 c5 c6 c7 c8 ct;obtain⟨c0,c1,c2,c3,c4,c5,c6,c7,c8,ct⟩:=(uh HSY).bz B1;by_cases h1:br ⟨21,f,t,l,o,m,x⟩ p false false false false
  ·rw[dc_t h1];have HH1:=hid h1;clear h1;go_wp2_with fail;go_ret;exact⟨by rw[show R=_ from HR,dc_t ⟨(by first|rfl|trivial),HH1⟩];first|rfl|(simp[*];done),(uh HBL) _ B1⟩
  ·rw[dc_f h1];have HN9:=hid h1;clear h1;go_wp2_with fail;go_ret;exact⟨by rw[show R=_ from HR,dc_f (λg=>HN9 g.2)];first|rfl|(simp[*];done),(uh HBL) _ B1⟩
 ·have e0:((q:Int)==0)=false:=bne (by omega);have HN9:=hid hq0;clear hq0;go_enter Tryz.func38,Tryz.ntmps38;unfold fmv;go_wp2_with fail;go_ret;exact⟨rdf HR (λg=>HN9 g.1),bel2 _ _ _⟩
theorem xp_22(s:Sx nm w v n F vn vk p A q K)(a:Fv)(hk:a.k=22):
  Calls Tryz.prog 38 #[.agg #[v],fmv a vn vk] w λe w'=>e=.returned (.bool (dc (q=0/\br a p false false false false)))/\Below w.heap.size w w':=by
 obtain⟨k,f,t,l,o,m,x⟩:=a;dsimp only at hk;subst hk;obtain⟨W2,hW2,HBL,HSY,hqI,HSQ,⟨pn,cn,rfl⟩,⟨pk,ck,rfl⟩,pf,cf,rfl⟩:=s.opn 22 f t l o m x 29 44;refine opR λR HR=>?_;clear s;by_cases hq0:q=0
 ·subst hq0;go_enter Tryz.func38,Tryz.ntmps38;unfold fmv;go_wp2_with fail;rw[<-hW2];clear hW2;have B0:Below W2.heap.size W2 W2:=Below.refl _ _;obtain⟨c0,c1,c2,c3,c4,c5,c6,c7,c8,ct⟩:=(uh HSY).bz B0;go_wp2_with fail;refine((uh HSY).bare false false false false _ B0).mono ?_;rintro e w1 ⟨rfl,B1⟩;clear c0 c1 c2 c3 c4 c5 c6 c7 c8 ct;obtain⟨c0,c1,c2,c3,c4,c5,c6,c7,c8,ct⟩:=(uh HSY).bz B1;by_cases h1:br ⟨22,f,t,l,o,m,x⟩ p false false false false
  ·rw[dc_t h1];have HH1:=hid h1;clear h1;go_wp2_with fail;go_ret;exact⟨by rw[show R=_ from HR,dc_t ⟨(by first|rfl|trivial),HH1⟩];first|rfl|(simp[*];done),(uh HBL) _ B1⟩
  ·rw[dc_f h1];have HN9:=hid h1;clear h1;go_wp2_with fail;go_ret;exact⟨by rw[show R=_ from HR,dc_f (λg=>HN9 g.2)];first|rfl|(simp[*];done),(uh HBL) _ B1⟩
 ·have e0:((q:Int)==0)=false:=bne (by omega);have HN9:=hid hq0;clear hq0;go_enter Tryz.func38,Tryz.ntmps38;unfold fmv;go_wp2_with fail;go_ret;exact⟨rdf HR (λg=>HN9 g.1),bel2 _ _ _⟩
theorem xp_27(s:Sx nm w v n F vn vk p A q K)(a:Fv)(hk:a.k=27):
  Calls Tryz.prog 38 #[.agg #[v],fmv a vn vk] w λe w'=>e=.returned (.bool (dc (q=0/\br a p false false false false)))/\Below w.heap.size w w':=by
 obtain⟨k,f,t,l,o,m,x⟩:=a;dsimp only at hk;subst hk;obtain⟨W2,hW2,HBL,HSY,hqI,HSQ,⟨pn,cn,rfl⟩,⟨pk,ck,rfl⟩,pf,cf,rfl⟩:=s.opn 27 f t l o m x 29 44;refine opR λR HR=>?_;clear s;by_cases hq0:q=0
 ·subst hq0;go_enter Tryz.func38,Tryz.ntmps38;unfold fmv;go_wp2_with fail;rw[<-hW2];clear hW2;have B0:Below W2.heap.size W2 W2:=Below.refl _ _;obtain⟨c0,c1,c2,c3,c4,c5,c6,c7,c8,ct⟩:=(uh HSY).bz B0;go_wp2_with fail;refine((uh HSY).bare false false false false _ B0).mono ?_;rintro e w1 ⟨rfl,B1⟩;clear c0 c1 c2 c3 c4 c5 c6 c7 c8 ct;obtain⟨c0,c1,c2,c3,c4,c5,c6,c7,c8,ct⟩:=(uh HSY).bz B1;by_cases h1:br ⟨27,f,t,l,o,m,x⟩ p false false false false
  ·rw[dc_t h1];have HH1:=hid h1;clear h1;go_wp2_with fail;go_ret;exact⟨by rw[show R=_ from HR,dc_t ⟨(by first|rfl|trivial),HH1⟩];first|rfl|(simp[*];done),(uh HBL) _ B1⟩
  ·rw[dc_f h1];have HN9:=hid h1;clear h1;go_wp2_with fail;go_ret;exact⟨by rw[show R=_ from HR,dc_f (λg=>HN9 g.2)];first|rfl|(simp[*];done),(uh HBL) _ B1⟩
 ·have e0:((q:Int)==0)=false:=bne (by omega);have HN9:=hid hq0;clear hq0;go_enter Tryz.func38,Tryz.ntmps38;unfold fmv;go_wp2_with fail;go_ret;exact⟨rdf HR (λg=>HN9 g.1),bel2 _ _ _⟩
theorem xp_29(s:Sx nm w v n F vn vk p A q K)(a:Fv)(hk:a.k=29):
  Calls Tryz.prog 38 #[.agg #[v],fmv a vn vk] w λe w'=>e=.returned (.bool (dc (q=2/\ex F K 0 2/\br a p false false false false)))/\Below w.heap.size w w':=by
 obtain⟨k,f,t,l,o,m,x⟩:=a;dsimp only at hk;subst hk;obtain⟨W2,hW2,HBL,HSY,hqI,HSQ,⟨pn,cn,rfl⟩,⟨pk,ck,rfl⟩,pf,cf,rfl⟩:=s.opn 29 f t l o m x 29 44;refine opR λR HR=>?_;clear s;by_cases hq0:q=2
 ·subst hq0;go_enter Tryz.func38,Tryz.ntmps38;unfold fmv;go_wp2_with fail;rw[<-hW2];clear hW2;have B0:Below W2.heap.size W2 W2:=Below.refl _ _;obtain⟨c0,c1,c2,c3,c4,c5,c6,c7,c8,ct⟩:=(uh HSY).bz B0;go_wp2_with fail;refine((uh HSY).exprs _ _ 0 2 rfl (by first|rfl|omega) (by omega) (by omega) _ B0).mono ?_;rintro e w1 ⟨rfl,B1⟩;clear c0 c1 c2 c3 c4 c5 c6 c7 c8 ct;obtain⟨c0,c1,c2,c3,c4,c5,c6,c7,c8,ct⟩:=(uh HSY).bz B1;by_cases h1:ex F K 0 2
  ·rw[dc_t h1];have HH1:=hid h1;clear h1;go_wp2_with fail;refine((uh HSY).bare false false false false _ B1).mono ?_;rintro e w2 ⟨rfl,B2⟩;clear c0 c1 c2 c3 c4 c5 c6 c7 c8 ct;obtain⟨c0,c1,c2,c3,c4,c5,c6,c7,c8,ct⟩:=(uh HSY).bz B2;by_cases h2:br ⟨29,f,t,l,o,m,x⟩ p false false false false
   ·rw[dc_t h2];have HH2:=hid h2;clear h2;go_wp2_with fail;go_ret;exact⟨by rw[show R=_ from HR,dc_t ⟨(by first|rfl|trivial),HH1,HH2⟩];first|rfl|(simp[*];done),(uh HBL) _ B2⟩
   ·rw[dc_f h2];have HN9:=hid h2;clear h2;go_wp2_with fail;go_ret;exact⟨by rw[show R=_ from HR,dc_f (λg=>HN9 g.2.2)];first|rfl|(simp[*];done),(uh HBL) _ B2⟩
  ·rw[dc_f h1];have HN9:=hid h1;clear h1;go_wp2_with fail;go_ret;exact⟨by rw[show R=_ from HR,dc_f (λg=>HN9 g.2.1)];first|rfl|(simp[*];done),(uh HBL) _ B1⟩
 ·have e0:((q:Int)==2)=false:=bne (by omega);have HN9:=hid hq0;clear hq0;go_enter Tryz.func38,Tryz.ntmps38;unfold fmv;go_wp2_with fail;go_ret;exact⟨rdf HR (λg=>HN9 g.1),bel2 _ _ _⟩
theorem xp_40(s:Sx nm w v n F vn vk p A q K)(a:Fv)(hk:a.k=40):
  Calls Tryz.prog 38 #[.agg #[v],fmv a vn vk] w λe w'=>e=.returned (.bool (dc (q=1/\ex F K 0 1/\br a p false false false false)))/\Below w.heap.size w w':=by
 obtain⟨k,f,t,l,o,m,x⟩:=a;dsimp only at hk;subst hk;obtain⟨W2,hW2,HBL,HSY,hqI,HSQ,⟨pn,cn,rfl⟩,⟨pk,ck,rfl⟩,pf,cf,rfl⟩:=s.opn 40 f t l o m x 29 44;refine opR λR HR=>?_;clear s;by_cases hq0:q=1
 ·subst hq0;go_enter Tryz.func38,Tryz.ntmps38;unfold fmv;go_wp2_with fail;rw[<-hW2];clear hW2;have B0:Below W2.heap.size W2 W2:=Below.refl _ _;obtain⟨c0,c1,c2,c3,c4,c5,c6,c7,c8,ct⟩:=(uh HSY).bz B0;go_wp2_with fail;refine((uh HSY).exprs _ _ 0 1 rfl (by first|rfl|omega) (by omega) (by omega) _ B0).mono ?_;rintro e w1 ⟨rfl,B1⟩;clear c0 c1 c2 c3 c4 c5 c6 c7 c8 ct;obtain⟨c0,c1,c2,c3,c4,c5,c6,c7,c8,ct⟩:=(uh HSY).bz B1;by_cases h1:ex F K 0 1
  ·rw[dc_t h1];have HH1:=hid h1;clear h1;go_wp2_with fail;refine((uh HSY).bare false false false false _ B1).mono ?_;rintro e w2 ⟨rfl,B2⟩;clear c0 c1 c2 c3 c4 c5 c6 c7 c8 ct;obtain⟨c0,c1,c2,c3,c4,c5,c6,c7,c8,ct⟩:=(uh HSY).bz B2;by_cases h2:br ⟨40,f,t,l,o,m,x⟩ p false false false false
   ·rw[dc_t h2];have HH2:=hid h2;clear h2;go_wp2_with fail;go_ret;exact⟨by rw[show R=_ from HR,dc_t ⟨(by first|rfl|trivial),HH1,HH2⟩];first|rfl|(simp[*];done),(uh HBL) _ B2⟩
   ·rw[dc_f h2];have HN9:=hid h2;clear h2;go_wp2_with fail;go_ret;exact⟨by rw[show R=_ from HR,dc_f (λg=>HN9 g.2.2)];first|rfl|(simp[*];done),(uh HBL) _ B2⟩
  ·rw[dc_f h1];have HN9:=hid h1;clear h1;go_wp2_with fail;go_ret;exact⟨by rw[show R=_ from HR,dc_f (λg=>HN9 g.2.1)];first|rfl|(simp[*];done),(uh HBL) _ B1⟩
 ·have e0:((q:Int)==1)=false:=bne (by omega);have HN9:=hid hq0;clear hq0;go_enter Tryz.func38,Tryz.ntmps38;unfold fmv;go_wp2_with fail;go_ret;exact⟨rdf HR (λg=>HN9 g.1),bel2 _ _ _⟩
theorem xp_41(s:Sx nm w v n F vn vk p A q K)(a:Fv)(hk:a.k=41):
  Calls Tryz.prog 38 #[.agg #[v],fmv a vn vk] w λe w'=>e=.returned (.bool (dc (q=2/\ex F K 0 2/\br a p false false false false)))/\Below w.heap.size w w':=by
 obtain⟨k,f,t,l,o,m,x⟩:=a;dsimp only at hk;subst hk;obtain⟨W2,hW2,HBL,HSY,hqI,HSQ,⟨pn,cn,rfl⟩,⟨pk,ck,rfl⟩,pf,cf,rfl⟩:=s.opn 41 f t l o m x 29 44;refine opR λR HR=>?_;clear s;by_cases hq0:q=2
 ·subst hq0;go_enter Tryz.func38,Tryz.ntmps38;unfold fmv;go_wp2_with fail;rw[<-hW2];clear hW2;have B0:Below W2.heap.size W2 W2:=Below.refl _ _;obtain⟨c0,c1,c2,c3,c4,c5,c6,c7,c8,ct⟩:=(uh HSY).bz B0;go_wp2_with fail;refine((uh HSY).exprs _ _ 0 2 rfl (by first|rfl|omega) (by omega) (by omega) _ B0).mono ?_;rintro e w1 ⟨rfl,B1⟩;clear c0 c1 c2 c3 c4 c5 c6 c7 c8 ct;obtain⟨c0,c1,c2,c3,c4,c5,c6,c7,c8,ct⟩:=(uh HSY).bz B1;by_cases h1:ex F K 0 2
  ·rw[dc_t h1];have HH1:=hid h1;clear h1;go_wp2_with fail;refine((uh HSY).bare false false false false _ B1).mono ?_;rintro e w2 ⟨rfl,B2⟩;clear c0 c1 c2 c3 c4 c5 c6 c7 c8 ct;obtain⟨c0,c1,c2,c3,c4,c5,c6,c7,c8,ct⟩:=(uh HSY).bz B2;by_cases h2:br ⟨41,f,t,l,o,m,x⟩ p false false false false
   ·rw[dc_t h2];have HH2:=hid h2;clear h2;go_wp2_with fail;go_ret;exact⟨by rw[show R=_ from HR,dc_t ⟨(by first|rfl|trivial),HH1,HH2⟩];first|rfl|(simp[*];done),(uh HBL) _ B2⟩
   ·rw[dc_f h2];have HN9:=hid h2;clear h2;go_wp2_with fail;go_ret;exact⟨by rw[show R=_ from HR,dc_f (λg=>HN9 g.2.2)];first|rfl|(simp[*];done),(uh HBL) _ B2⟩
  ·rw[dc_f h1];have HN9:=hid h1;clear h1;go_wp2_with fail;go_ret;exact⟨by rw[show R=_ from HR,dc_f (λg=>HN9 g.2.1)];first|rfl|(simp[*];done),(uh HBL) _ B1⟩
 ·have e0:((q:Int)==2)=false:=bne (by omega);have HN9:=hid hq0;clear hq0;go_enter Tryz.func38,Tryz.ntmps38;unfold fmv;go_wp2_with fail;go_ret;exact⟨rdf HR (λg=>HN9 g.1),bel2 _ _ _⟩
theorem xp_42(s:Sx nm w v n F vn vk p A q K)(a:Fv)(hk:a.k=42):
  Calls Tryz.prog 38 #[.agg #[v],fmv a vn vk] w λe w'=>e=.returned (.bool (dc (q=1/\ex F K 0 1/\br a p false false true false/\nm a.x)))/\Below w.heap.size w w':=by
 obtain⟨k,f,t,l,o,m,x⟩:=a;dsimp only at hk;subst hk;obtain⟨W2,hW2,HBL,HSY,hqI,HSQ,⟨pn,cn,rfl⟩,⟨pk,ck,rfl⟩,pf,cf,rfl⟩:=s.opn 42 f t l o m x 29 44;refine opR λR HR=>?_;clear s;by_cases hq0:q=1
 ·subst hq0;go_enter Tryz.func38,Tryz.ntmps38;unfold fmv;go_wp2_with fail;rw[<-hW2];clear hW2;have B0:Below W2.heap.size W2 W2:=Below.refl _ _;obtain⟨c0,c1,c2,c3,c4,c5,c6,c7,c8,ct⟩:=(uh HSY).bz B0;go_wp2_with fail;refine((uh HSY).exprs _ _ 0 1 rfl (by first|rfl|omega) (by omega) (by omega) _ B0).mono ?_;rintro e w1 ⟨rfl,B1⟩;clear c0 c1 c2 c3 c4 c5 c6 c7 c8 ct;obtain⟨c0,c1,c2,c3,c4,c5,c6,c7,c8,ct⟩:=(uh HSY).bz B1;by_cases h1:ex F K 0 1
  ·rw[dc_t h1];have HH1:=hid h1;clear h1;go_wp2_with fail;refine((uh HSY).bare false false true false _ B1).mono ?_;rintro e w2 ⟨rfl,B2⟩;clear c0 c1 c2 c3 c4 c5 c6 c7 c8 ct;obtain⟨c0,c1,c2,c3,c4,c5,c6,c7,c8,ct⟩:=(uh HSY).bz B2;by_cases h2:br ⟨42,f,t,l,o,m,x⟩ p false false true false
   ·rw[dc_t h2];have HH2:=hid h2;clear h2;go_wp2_with fail;refine((((uh HSY).hn x _).mono λ_ _ h=>(⟨h.1,below_to B2 h.2⟩:_/\Below W2.heap.size W2 _))).mono ?_;rintro e w3 ⟨rfl,B3⟩;clear c0 c1 c2 c3 c4 c5 c6 c7 c8 ct;obtain⟨c0,c1,c2,c3,c4,c5,c6,c7,c8,ct⟩:=(uh HSY).bz B3;by_cases h3:nm x
    ·rw[dc_t h3];have HH3:=hid h3;clear h3;go_wp2_with fail;go_ret;exact⟨by rw[show R=_ from HR,dc_t ⟨(by first|rfl|trivial),HH1,HH2,HH3⟩];first|rfl|(simp[*];done),(uh HBL) _ B3⟩
    ·rw[dc_f h3];have HN9:=hid h3;clear h3;go_wp2_with fail;go_ret;exact⟨by rw[show R=_ from HR,dc_f (λg=>HN9 g.2.2.2)];first|rfl|(simp[*];done),(uh HBL) _ B3⟩
   ·rw[dc_f h2];have HN9:=hid h2;clear h2;go_wp2_with fail;go_ret;exact⟨by rw[show R=_ from HR,dc_f (λg=>HN9 g.2.2.1)];first|rfl|(simp[*];done),(uh HBL) _ B2⟩
  ·rw[dc_f h1];have HN9:=hid h1;clear h1;go_wp2_with fail;go_ret;exact⟨by rw[show R=_ from HR,dc_f (λg=>HN9 g.2.1)];first|rfl|(simp[*];done),(uh HBL) _ B1⟩
 ·have e0:((q:Int)==1)=false:=bne (by omega);have HN9:=hid hq0;clear hq0;go_enter Tryz.func38,Tryz.ntmps38;unfold fmv;go_wp2_with fail;go_ret;exact⟨rdf HR (λg=>HN9 g.1),bel2 _ _ _⟩
