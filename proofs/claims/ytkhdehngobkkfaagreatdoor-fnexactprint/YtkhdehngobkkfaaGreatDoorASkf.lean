import Derived.Test.YtkhdehngobkkfaaGreatDoorASka
set_option maxRecDepth 100000
set_option maxHeartbeats 8000000
namespace Go.Proofs.YtkhdehngobkkfaaGreatDoor.Fo
open Go.ChangeShapes Go.WideShapes Go.ChangeAt Go.RowKit
set_option linter.unusedVariables false
variable {nm:ByteArray->Prop}{w:World}{v vn vk:Value}{n p q:Nat}{F:Nat->Gv}{A:Nat->ByteArray}{K:Nat->Int}
theorem st_3(s:Sx nm w v n F vn vk p A q K)(a:Fv)(hk:a.k=3):
  Calls Tryz.prog 37 #[.agg #[v],fmv a vn vk] w λe w'=>e=.returned (.bool (dc (br a p false false false true/\nd nm p A 1 1/\q=1/\ex F K 0 1)))/\Below w.heap.size w w':=by
 obtain⟨k,f,t,l,o,m,x⟩:=a;dsimp only at hk;subst hk;obtain⟨W2,hW2,HBL,HSY,hqI,HSQ,⟨pn,cn,rfl⟩,⟨pk,ck,rfl⟩,pf,cf,rfl⟩:=s.opn 3 f t l o m x 29 44;refine opR λR HR=>?_;clear s;go_enter Tryz.func37,Tryz.ntmps37;unfold fmv;go_wp2_with fail;rw[<-hW2];clear hW2;have B0:Below W2.heap.size W2 W2:=Below.refl _ _;obtain⟨c0,c1,c2,c3,c4,c5,c6,c7,c8,ct⟩:=(uh HSY).bz B0;go_wp2_with fail;refine((uh HSY).bare false false false true _ B0).mono ?_;rintro e w1 ⟨rfl,B1⟩;clear c0 c1 c2 c3 c4 c5 c6 c7 c8 ct;obtain⟨c0,c1,c2,c3,c4,c5,c6,c7,c8,ct⟩:=(uh HSY).bz B1;by_cases h0:br ⟨3,f,t,l,o,m,x⟩ p false false false true
 ·rw[dc_t h0];have HH0:=hid h0;clear h0;go_wp2_with fail;refine((uh HSY).named 1 1 (by omega) (by omega) _ B1).mono ?_;rintro e w2 ⟨rfl,B2⟩;clear c0 c1 c2 c3 c4 c5 c6 c7 c8 ct;obtain⟨c0,c1,c2,c3,c4,c5,c6,c7,c8,ct⟩:=(uh HSY).bz B2;by_cases h1:nd nm p A 1 1
  ·rw[dc_t h1];have HH1:=hid h1;clear h1;by_cases hq0:q=1
   ·subst hq0;go_wp2_with fail;refine((uh HSY).exprs _ _ 0 1 rfl (by first|rfl|omega) (by omega) (by omega) _ B2).mono ?_;rintro e w3 ⟨rfl,B3⟩;clear c0 c1 c2 c3 c4 c5 c6 c7 c8 ct;obtain⟨c0,c1,c2,c3,c4,c5,c6,c7,c8,ct⟩:=(uh HSY).bz B3;by_cases h3:ex F K 0 1
    ·rw[dc_t h3];have HH3:=hid h3;clear h3;go_wp2_with fail;go_ret;exact⟨rdt HR ⟨HH0,HH1,(by first|rfl|trivial),HH3⟩,(uh HBL) _ B3⟩
    ·rw[dc_f h3];have HN9:=hid h3;clear h3;go_wp2_with fail;go_ret;exact⟨rdf HR (λg=>HN9 g.2.2.2),(uh HBL) _ B3⟩
   ·have e0:((q:Int)==1)=false:=bne (by omega);have h2:=hq0;go_wp2_with fail;go_ret;exact⟨rdf HR (λg=>h2 g.2.2.1),(uh HBL) _ B2⟩
  ·rw[dc_f h1];have HN9:=hid h1;clear h1;go_wp2_with fail;go_ret;exact⟨rdf HR (λg=>HN9 g.2.1),(uh HBL) _ B2⟩
 ·rw[dc_f h0];have HN9:=hid h0;clear h0;go_wp2_with fail;go_ret;exact⟨rdf HR (λg=>HN9 g.1),(uh HBL) _ B1⟩
theorem st_4(s:Sx nm w v n F vn vk p A q K)(a:Fv)(hk:a.k=4):
  Calls Tryz.prog 37 #[.agg #[v],fmv a vn vk] w λe w'=>e=.returned (.bool (dc (br a p false false false true/\nd nm p A 1 1/\q=1/\kdk F K 0=36)))/\Below w.heap.size w w':=by
 obtain⟨k,f,t,l,o,m,x⟩:=a;dsimp only at hk;subst hk;obtain⟨W2,hW2,HBL,HSY,hqI,HSQ,⟨pn,cn,rfl⟩,⟨pk,ck,rfl⟩,pf,cf,rfl⟩:=s.opn 4 f t l o m x 29 44;refine opR λR HR=>?_;clear s;go_enter Tryz.func37,Tryz.ntmps37;unfold fmv;go_wp2_with fail;rw[<-hW2];clear hW2;have B0:Below W2.heap.size W2 W2:=Below.refl _ _;obtain⟨c0,c1,c2,c3,c4,c5,c6,c7,c8,ct⟩:=(uh HSY).bz B0;go_wp2_with fail;refine((uh HSY).bare false false false true _ B0).mono ?_;rintro e w1 ⟨rfl,B1⟩;clear c0 c1 c2 c3 c4 c5 c6 c7 c8 ct;obtain⟨c0,c1,c2,c3,c4,c5,c6,c7,c8,ct⟩:=(uh HSY).bz B1;by_cases h0:br ⟨4,f,t,l,o,m,x⟩ p false false false true
 ·rw[dc_t h0];have HH0:=hid h0;clear h0;go_wp2_with fail;refine((uh HSY).named 1 1 (by omega) (by omega) _ B1).mono ?_;rintro e w2 ⟨rfl,B2⟩;clear c0 c1 c2 c3 c4 c5 c6 c7 c8 ct;obtain⟨c0,c1,c2,c3,c4,c5,c6,c7,c8,ct⟩:=(uh HSY).bz B2;by_cases h1:nd nm p A 1 1
  ·rw[dc_t h1];have HH1:=hid h1;clear h1;by_cases hq0:q=1
   ·subst hq0;go_wp2_with fail;refine((uh HSY).kid _ 0 (by first|rfl|omega) (by omega) _ B2).mono ?_;rintro e w3 ⟨rfl,B3⟩;clear c0 c1 c2 c3 c4 c5 c6 c7 c8 ct;obtain⟨c0,c1,c2,c3,c4,c5,c6,c7,c8,ct⟩:=(uh HSY).bz B3;by_cases h3:kdk F K 0=36
    ·have ek3:=beq1 h3;have HH3:=hid h3;clear h3;go_wp2_with fail;go_ret;exact⟨rdt HR ⟨HH0,HH1,(by first|rfl|trivial),HH3⟩,(uh HBL) _ B3⟩
    ·have ek3:=bne h3;have HN9:=hid h3;clear h3;go_wp2_with fail;go_ret;exact⟨rdf HR (λg=>HN9 g.2.2.2),(uh HBL) _ B3⟩
   ·have e0:((q:Int)==1)=false:=bne (by omega);have h2:=hq0;go_wp2_with fail;go_ret;exact⟨rdf HR (λg=>h2 g.2.2.1),(uh HBL) _ B2⟩
  ·rw[dc_f h1];have HN9:=hid h1;clear h1;go_wp2_with fail;go_ret;exact⟨rdf HR (λg=>HN9 g.2.1),(uh HBL) _ B2⟩
 ·rw[dc_f h0];have HN9:=hid h0;clear h0;go_wp2_with fail;go_ret;exact⟨rdf HR (λg=>HN9 g.1),(uh HBL) _ B1⟩
theorem st_6(s:Sx nm w v n F vn vk p A q K)(a:Fv)(hk:a.k=6):
  Calls Tryz.prog 37 #[.agg #[v],fmv a vn vk] w λe w'=>e=.returned (.bool (dc (br a p false false false false/\q=1/\kdk F K 0=34)))/\Below w.heap.size w w':=by
 obtain⟨k,f,t,l,o,m,x⟩:=a;dsimp only at hk;subst hk;obtain⟨W2,hW2,HBL,HSY,hqI,HSQ,⟨pn,cn,rfl⟩,⟨pk,ck,rfl⟩,pf,cf,rfl⟩:=s.opn 6 f t l o m x 29 44;refine opR λR HR=>?_;clear s;go_enter Tryz.func37,Tryz.ntmps37;unfold fmv;go_wp2_with fail;rw[<-hW2];clear hW2;have B0:Below W2.heap.size W2 W2:=Below.refl _ _;obtain⟨c0,c1,c2,c3,c4,c5,c6,c7,c8,ct⟩:=(uh HSY).bz B0;go_wp2_with fail;refine((uh HSY).bare false false false false _ B0).mono ?_;rintro e w1 ⟨rfl,B1⟩;clear c0 c1 c2 c3 c4 c5 c6 c7 c8 ct;obtain⟨c0,c1,c2,c3,c4,c5,c6,c7,c8,ct⟩:=(uh HSY).bz B1;by_cases h0:br ⟨6,f,t,l,o,m,x⟩ p false false false false
 ·rw[dc_t h0];have HH0:=hid h0;clear h0;by_cases hq0:q=1
  ·subst hq0;go_wp2_with fail;refine((uh HSY).kid _ 0 (by first|rfl|omega) (by omega) _ B1).mono ?_;rintro e w2 ⟨rfl,B2⟩;clear c0 c1 c2 c3 c4 c5 c6 c7 c8 ct;obtain⟨c0,c1,c2,c3,c4,c5,c6,c7,c8,ct⟩:=(uh HSY).bz B2;by_cases h2:kdk F K 0=34
   ·have ek2:=beq1 h2;have HH2:=hid h2;clear h2;go_wp2_with fail;go_ret;exact⟨rdt HR ⟨HH0,(by first|rfl|trivial),HH2⟩,(uh HBL) _ B2⟩
   ·have ek2:=bne h2;have HN9:=hid h2;clear h2;go_wp2_with fail;go_ret;exact⟨rdf HR (λg=>HN9 g.2.2),(uh HBL) _ B2⟩
  ·have e0:((q:Int)==1)=false:=bne (by omega);have h1:=hq0;go_wp2_with fail;go_ret;exact⟨rdf HR (λg=>h1 g.2.1),(uh HBL) _ B1⟩
 ·rw[dc_f h0];have HN9:=hid h0;clear h0;go_wp2_with fail;go_ret;exact⟨rdf HR (λg=>HN9 g.1),(uh HBL) _ B1⟩
theorem st_16(s:Sx nm w v n F vn vk p A q K)(a:Fv)(hk:a.k=16):
  Calls Tryz.prog 37 #[.agg #[v],fmv a vn vk] w λe w'=>e=.returned (.bool (dc (br a p false false false false/\q=1/\kdk F K 0=34)))/\Below w.heap.size w w':=by
 obtain⟨k,f,t,l,o,m,x⟩:=a;dsimp only at hk;subst hk;obtain⟨W2,hW2,HBL,HSY,hqI,HSQ,⟨pn,cn,rfl⟩,⟨pk,ck,rfl⟩,pf,cf,rfl⟩:=s.opn 16 f t l o m x 29 44;refine opR λR HR=>?_;clear s;go_enter Tryz.func37,Tryz.ntmps37;unfold fmv;go_wp2_with fail;rw[<-hW2];clear hW2;have B0:Below W2.heap.size W2 W2:=Below.refl _ _;obtain⟨c0,c1,c2,c3,c4,c5,c6,c7,c8,ct⟩:=(uh HSY).bz B0;go_wp2_with fail;refine((uh HSY).bare false false false false _ B0).mono ?_;rintro e w1 ⟨rfl,B1⟩;clear c0 c1 c2 c3 c4 c5 c6 c7 c8 ct;obtain⟨c0,c1,c2,c3,c4,c5,c6,c7,c8,ct⟩:=(uh HSY).bz B1;by_cases h0:br ⟨16,f,t,l,o,m,x⟩ p false false false false
 ·rw[dc_t h0];have HH0:=hid h0;clear h0;by_cases hq0:q=1
  ·subst hq0;go_wp2_with fail;refine((uh HSY).kid _ 0 (by first|rfl|omega) (by omega) _ B1).mono ?_;rintro e w2 ⟨rfl,B2⟩;clear c0 c1 c2 c3 c4 c5 c6 c7 c8 ct;obtain⟨c0,c1,c2,c3,c4,c5,c6,c7,c8,ct⟩:=(uh HSY).bz B2;by_cases h2:kdk F K 0=34
   ·have ek2:=beq1 h2;have HH2:=hid h2;clear h2;go_wp2_with fail;go_ret;exact⟨rdt HR ⟨HH0,(by first|rfl|trivial),HH2⟩,(uh HBL) _ B2⟩
   ·have ek2:=bne h2;have HN9:=hid h2;clear h2;go_wp2_with fail;go_ret;exact⟨rdf HR (λg=>HN9 g.2.2),(uh HBL) _ B2⟩
  ·have e0:((q:Int)==1)=false:=bne (by omega);have h1:=hq0;go_wp2_with fail;go_ret;exact⟨rdf HR (λg=>h1 g.2.1),(uh HBL) _ B1⟩
 ·rw[dc_f h0];have HN9:=hid h0;clear h0;go_wp2_with fail;go_ret;exact⟨rdf HR (λg=>HN9 g.1),(uh HBL) _ B1⟩
theorem st_8(s:Sx nm w v n F vn vk p A q K)(a:Fv)(hk:a.k=8):
  Calls Tryz.prog 37 #[.agg #[v],fmv a vn vk] w λe w'=>e=.returned (.bool (dc (br a p false false false false/\q=2/\ex F K 0 1/\kdk F K 1=1)))/\Below w.heap.size w w':=by
 obtain⟨k,f,t,l,o,m,x⟩:=a;dsimp only at hk;subst hk;obtain⟨W2,hW2,HBL,HSY,hqI,HSQ,⟨pn,cn,rfl⟩,⟨pk,ck,rfl⟩,pf,cf,rfl⟩:=s.opn 8 f t l o m x 29 44;refine opR λR HR=>?_;clear s;go_enter Tryz.func37,Tryz.ntmps37;unfold fmv;go_wp2_with fail;rw[<-hW2];clear hW2;have B0:Below W2.heap.size W2 W2:=Below.refl _ _;obtain⟨c0,c1,c2,c3,c4,c5,c6,c7,c8,ct⟩:=(uh HSY).bz B0;go_wp2_with fail;refine((uh HSY).bare false false false false _ B0).mono ?_;rintro e w1 ⟨rfl,B1⟩;clear c0 c1 c2 c3 c4 c5 c6 c7 c8 ct;obtain⟨c0,c1,c2,c3,c4,c5,c6,c7,c8,ct⟩:=(uh HSY).bz B1;by_cases h0:br ⟨8,f,t,l,o,m,x⟩ p false false false false
 ·rw[dc_t h0];have HH0:=hid h0;clear h0;by_cases hq0:q=2
  ·subst hq0;go_wp2_with fail;refine((uh HSY).exprs _ _ 0 1 rfl (by first|rfl|omega) (by omega) (by omega) _ B1).mono ?_;rintro e w2 ⟨rfl,B2⟩;clear c0 c1 c2 c3 c4 c5 c6 c7 c8 ct;obtain⟨c0,c1,c2,c3,c4,c5,c6,c7,c8,ct⟩:=(uh HSY).bz B2;by_cases h2:ex F K 0 1
   ·rw[dc_t h2];have HH2:=hid h2;clear h2;go_wp2_with fail;refine((uh HSY).kid _ 1 (by first|rfl|omega) (by omega) _ B2).mono ?_;rintro e w3 ⟨rfl,B3⟩;clear c0 c1 c2 c3 c4 c5 c6 c7 c8 ct;obtain⟨c0,c1,c2,c3,c4,c5,c6,c7,c8,ct⟩:=(uh HSY).bz B3;by_cases h3:kdk F K 1=1
    ·have ek3:=beq1 h3;have HH3:=hid h3;clear h3;go_wp2_with fail;go_ret;exact⟨rdt HR ⟨HH0,(by first|rfl|trivial),HH2,HH3⟩,(uh HBL) _ B3⟩
    ·have ek3:=bne h3;have HN9:=hid h3;clear h3;go_wp2_with fail;go_ret;exact⟨rdf HR (λg=>HN9 g.2.2.2),(uh HBL) _ B3⟩
   ·rw[dc_f h2];have HN9:=hid h2;clear h2;go_wp2_with fail;go_ret;exact⟨rdf HR (λg=>HN9 g.2.2.1),(uh HBL) _ B2⟩
  ·have e0:((q:Int)==2)=false:=bne (by omega);have h1:=hq0;go_wp2_with fail;go_ret;exact⟨rdf HR (λg=>h1 g.2.1),(uh HBL) _ B1⟩
 ·rw[dc_f h0];have HN9:=hid h0;clear h0;go_wp2_with fail;go_ret;exact⟨rdf HR (λg=>HN9 g.1),(uh HBL) _ B1⟩
theorem st_9(s:Sx nm w v n F vn vk p A q K)(a:Fv)(hk:a.k=9):
  Calls Tryz.prog 37 #[.agg #[v],fmv a vn vk] w λe w'=>e=.returned (.bool (dc (br a p false false false true/\nd nm p A 1 1/\(q=3\/q=4)/\ex F K 0 (q-1)/\kdk F K (q-1)=1)))/\Below w.heap.size w w':=by
 obtain⟨k,f,t,l,o,m,x⟩:=a;dsimp only at hk;subst hk;obtain⟨W2,hW2,HBL,HSY,hqI,HSQ,⟨pn,cn,rfl⟩,⟨pk,ck,rfl⟩,pf,cf,rfl⟩:=s.opn 9 f t l o m x 29 44;refine opR λR HR=>?_;clear s;go_enter Tryz.func37,Tryz.ntmps37;unfold fmv;go_wp2_with fail;rw[<-hW2];clear hW2;have B0:Below W2.heap.size W2 W2:=Below.refl _ _;obtain⟨c0,c1,c2,c3,c4,c5,c6,c7,c8,ct⟩:=(uh HSY).bz B0;go_wp2_with fail;refine((uh HSY).bare false false false true _ B0).mono ?_;rintro e w1 ⟨rfl,B1⟩;clear c0 c1 c2 c3 c4 c5 c6 c7 c8 ct;obtain⟨c0,c1,c2,c3,c4,c5,c6,c7,c8,ct⟩:=(uh HSY).bz B1;by_cases h0:br ⟨9,f,t,l,o,m,x⟩ p false false false true
 ·rw[dc_t h0];have HH0:=hid h0;clear h0;go_wp2_with fail;refine((uh HSY).named 1 1 (by omega) (by omega) _ B1).mono ?_;rintro e w2 ⟨rfl,B2⟩;clear c0 c1 c2 c3 c4 c5 c6 c7 c8 ct;obtain⟨c0,c1,c2,c3,c4,c5,c6,c7,c8,ct⟩:=(uh HSY).bz B2;by_cases h1:nd nm p A 1 1
  ·rw[dc_t h1];have HH1:=hid h1;clear h1;by_cases hq0:q=3
   ·subst hq0;go_wp2_with fail;refine((uh HSY).exprs _ _ 0 2 rfl (by first|rfl|omega) (by omega) (by omega) _ B2).mono ?_;rintro e w3 ⟨rfl,B3⟩;clear c0 c1 c2 c3 c4 c5 c6 c7 c8 ct;obtain⟨c0,c1,c2,c3,c4,c5,c6,c7,c8,ct⟩:=(uh HSY).bz B3;by_cases h3:ex F K 0 2
    ·rw[dc_t h3];have HH3:=hid h3;clear h3;go_wp2_with fail;refine((uh HSY).kid _ 2 (by first|rfl|omega) (by omega) _ B3).mono ?_;rintro e w4 ⟨rfl,B4⟩;clear c0 c1 c2 c3 c4 c5 c6 c7 c8 ct;obtain⟨c0,c1,c2,c3,c4,c5,c6,c7,c8,ct⟩:=(uh HSY).bz B4;by_cases h4:kdk F K 2=1
     ·have ek4:=beq1 h4;have HH4:=hid h4;clear h4;go_wp2_with fail;go_ret;exact⟨rdt HR ⟨HH0,HH1,(by first|exact Or.inl rfl|exact Or.inr rfl|trivial),HH3,HH4⟩,(uh HBL) _ B4⟩
     ·have ek4:=bne h4;have HN9:=hid h4;clear h4;go_wp2_with fail;go_ret;exact⟨rdf HR (λg=>HN9 g.2.2.2.2),(uh HBL) _ B4⟩
    ·rw[dc_f h3];have HN9:=hid h3;clear h3;go_wp2_with fail;go_ret;exact⟨rdf HR (λg=>HN9 g.2.2.2.1),(uh HBL) _ B3⟩
   ·have e0:((q:Int)==3)=false:=bne (by omega);by_cases hq1:q=4
    ·subst hq1;go_wp2_with fail;refine((uh HSY).exprs _ _ 0 3 rfl (by first|rfl|omega) (by omega) (by omega) _ B2).mono ?_;rintro e w3 ⟨rfl,B3⟩;clear c0 c1 c2 c3 c4 c5 c6 c7 c8 ct;obtain⟨c0,c1,c2,c3,c4,c5,c6,c7,c8,ct⟩:=(uh HSY).bz B3;by_cases h3:ex F K 0 3
     ·rw[dc_t h3];have HH3:=hid h3;clear h3;go_wp2_with fail;refine((uh HSY).kid _ 3 (by first|rfl|omega) (by omega) _ B3).mono ?_;rintro e w4 ⟨rfl,B4⟩;clear c0 c1 c2 c3 c4 c5 c6 c7 c8 ct;obtain⟨c0,c1,c2,c3,c4,c5,c6,c7,c8,ct⟩:=(uh HSY).bz B4;by_cases h4:kdk F K 3=1
      ·have ek4:=beq1 h4;have HH4:=hid h4;clear h4;go_wp2_with fail;go_ret;exact⟨rdt HR ⟨HH0,HH1,(by first|exact Or.inl rfl|exact Or.inr rfl|trivial),HH3,HH4⟩,(uh HBL) _ B4⟩
      ·have ek4:=bne h4;have HN9:=hid h4;clear h4;go_wp2_with fail;go_ret;exact⟨rdf HR (λg=>HN9 g.2.2.2.2),(uh HBL) _ B4⟩
     ·rw[dc_f h3];have HN9:=hid h3;clear h3;go_wp2_with fail;go_ret;exact⟨rdf HR (λg=>HN9 g.2.2.2.1),(uh HBL) _ B3⟩
    ·have e1:((q:Int)==4)=false:=bne (by omega);have h2:¬(q=3\/q=4):=by omega
     clear hq0 hq1;go_wp2_with fail;go_ret;exact⟨rdf HR (λg=>h2 g.2.2.1),(uh HBL) _ B2⟩
  ·rw[dc_f h1];have HN9:=hid h1;clear h1;go_wp2_with fail;go_ret;exact⟨rdf HR (λg=>HN9 g.2.1),(uh HBL) _ B2⟩
 ·rw[dc_f h0];have HN9:=hid h0;clear h0;go_wp2_with fail;go_ret;exact⟨rdf HR (λg=>HN9 g.1),(uh HBL) _ B1⟩
theorem st_10(s:Sx nm w v n F vn vk p A q K)(a:Fv)(hk:a.k=10):
  Calls Tryz.prog 37 #[.agg #[v],fmv a vn vk] w λe w'=>e=.returned (.bool (dc (br a p false false false true/\nd nm p A 1 200/\q=2/\ex F K 0 1/\kdk F K 1=1)))/\Below w.heap.size w w':=by
 obtain⟨k,f,t,l,o,m,x⟩:=a;dsimp only at hk;subst hk;obtain⟨W2,hW2,HBL,HSY,hqI,HSQ,⟨pn,cn,rfl⟩,⟨pk,ck,rfl⟩,pf,cf,rfl⟩:=s.opn 10 f t l o m x 29 44;refine opR λR HR=>?_;clear s;go_enter Tryz.func37,Tryz.ntmps37;unfold fmv;go_wp2_with fail;rw[<-hW2];clear hW2;have B0:Below W2.heap.size W2 W2:=Below.refl _ _;obtain⟨c0,c1,c2,c3,c4,c5,c6,c7,c8,ct⟩:=(uh HSY).bz B0;go_wp2_with fail;refine((uh HSY).bare false false false true _ B0).mono ?_;rintro e w1 ⟨rfl,B1⟩;clear c0 c1 c2 c3 c4 c5 c6 c7 c8 ct;obtain⟨c0,c1,c2,c3,c4,c5,c6,c7,c8,ct⟩:=(uh HSY).bz B1;by_cases h0:br ⟨10,f,t,l,o,m,x⟩ p false false false true
 ·rw[dc_t h0];have HH0:=hid h0;clear h0;go_wp2_with fail;refine((uh HSY).named 1 200 (by omega) (by omega) _ B1).mono ?_;rintro e w2 ⟨rfl,B2⟩;clear c0 c1 c2 c3 c4 c5 c6 c7 c8 ct;obtain⟨c0,c1,c2,c3,c4,c5,c6,c7,c8,ct⟩:=(uh HSY).bz B2;by_cases h1:nd nm p A 1 200
  ·rw[dc_t h1];have HH1:=hid h1;clear h1;by_cases hq0:q=2
   ·subst hq0;go_wp2_with fail;refine((uh HSY).exprs _ _ 0 1 rfl (by first|rfl|omega) (by omega) (by omega) _ B2).mono ?_;rintro e w3 ⟨rfl,B3⟩;clear c0 c1 c2 c3 c4 c5 c6 c7 c8 ct;obtain⟨c0,c1,c2,c3,c4,c5,c6,c7,c8,ct⟩:=(uh HSY).bz B3;by_cases h3:ex F K 0 1
    ·rw[dc_t h3];have HH3:=hid h3;clear h3;go_wp2_with fail;refine((uh HSY).kid _ 1 (by first|rfl|omega) (by omega) _ B3).mono ?_;rintro e w4 ⟨rfl,B4⟩;clear c0 c1 c2 c3 c4 c5 c6 c7 c8 ct;obtain⟨c0,c1,c2,c3,c4,c5,c6,c7,c8,ct⟩:=(uh HSY).bz B4;by_cases h4:kdk F K 1=1
     ·have ek4:=beq1 h4;have HH4:=hid h4;clear h4;go_wp2_with fail;go_ret;exact⟨rdt HR ⟨HH0,HH1,(by first|rfl|trivial),HH3,HH4⟩,(uh HBL) _ B4⟩
     ·have ek4:=bne h4;have HN9:=hid h4;clear h4;go_wp2_with fail;go_ret;exact⟨rdf HR (λg=>HN9 g.2.2.2.2),(uh HBL) _ B4⟩
    ·rw[dc_f h3];have HN9:=hid h3;clear h3;go_wp2_with fail;go_ret;exact⟨rdf HR (λg=>HN9 g.2.2.2.1),(uh HBL) _ B3⟩
   ·have e0:((q:Int)==2)=false:=bne (by omega);have h2:=hq0;go_wp2_with fail;go_ret;exact⟨rdf HR (λg=>h2 g.2.2.1),(uh HBL) _ B2⟩
  ·rw[dc_f h1];have HN9:=hid h1;clear h1;go_wp2_with fail;go_ret;exact⟨rdf HR (λg=>HN9 g.2.1),(uh HBL) _ B2⟩
 ·rw[dc_f h0];have HN9:=hid h0;clear h0;go_wp2_with fail;go_ret;exact⟨rdf HR (λg=>HN9 g.1),(uh HBL) _ B1⟩
theorem st_11(s:Sx nm w v n F vn vk p A q K)(a:Fv)(hk:a.k=11):
  Calls Tryz.prog 37 #[.agg #[v],fmv a vn vk] w λe w'=>e=.returned (.bool (dc (br a p false false false false/\q=0)))/\Below w.heap.size w w':=by
 obtain⟨k,f,t,l,o,m,x⟩:=a;dsimp only at hk;subst hk;obtain⟨W2,hW2,HBL,HSY,hqI,HSQ,⟨pn,cn,rfl⟩,⟨pk,ck,rfl⟩,pf,cf,rfl⟩:=s.opn 11 f t l o m x 29 44;refine opR λR HR=>?_;clear s;go_enter Tryz.func37,Tryz.ntmps37;unfold fmv;go_wp2_with fail;rw[<-hW2];clear hW2;have B0:Below W2.heap.size W2 W2:=Below.refl _ _;obtain⟨c0,c1,c2,c3,c4,c5,c6,c7,c8,ct⟩:=(uh HSY).bz B0;go_wp2_with fail;refine((uh HSY).bare false false false false _ B0).mono ?_;rintro e w1 ⟨rfl,B1⟩;clear c0 c1 c2 c3 c4 c5 c6 c7 c8 ct;obtain⟨c0,c1,c2,c3,c4,c5,c6,c7,c8,ct⟩:=(uh HSY).bz B1;by_cases h0:br ⟨11,f,t,l,o,m,x⟩ p false false false false
 ·rw[dc_t h0];have HH0:=hid h0;clear h0;by_cases hq0:q=0
  ·subst hq0;go_wp2_with fail;go_ret;exact⟨rdt HR ⟨HH0,(by first|rfl|trivial)⟩,(uh HBL) _ B1⟩
  ·have e0:((q:Int)==0)=false:=bne (by omega);have h1:=hq0;go_wp2_with fail;go_ret;exact⟨rdf HR (λg=>h1 g.2),(uh HBL) _ B1⟩
 ·rw[dc_f h0];have HN9:=hid h0;clear h0;go_wp2_with fail;go_ret;exact⟨rdf HR (λg=>HN9 g.1),(uh HBL) _ B1⟩
theorem st_12(s:Sx nm w v n F vn vk p A q K)(a:Fv)(hk:a.k=12):
  Calls Tryz.prog 37 #[.agg #[v],fmv a vn vk] w λe w'=>e=.returned (.bool (dc (br a p false false false false/\q=0)))/\Below w.heap.size w w':=by
 obtain⟨k,f,t,l,o,m,x⟩:=a;dsimp only at hk;subst hk;obtain⟨W2,hW2,HBL,HSY,hqI,HSQ,⟨pn,cn,rfl⟩,⟨pk,ck,rfl⟩,pf,cf,rfl⟩:=s.opn 12 f t l o m x 29 44;refine opR λR HR=>?_;clear s;go_enter Tryz.func37,Tryz.ntmps37;unfold fmv;go_wp2_with fail;rw[<-hW2];clear hW2;have B0:Below W2.heap.size W2 W2:=Below.refl _ _;obtain⟨c0,c1,c2,c3,c4,c5,c6,c7,c8,ct⟩:=(uh HSY).bz B0;go_wp2_with fail;refine((uh HSY).bare false false false false _ B0).mono ?_;rintro e w1 ⟨rfl,B1⟩;clear c0 c1 c2 c3 c4 c5 c6 c7 c8 ct;obtain⟨c0,c1,c2,c3,c4,c5,c6,c7,c8,ct⟩:=(uh HSY).bz B1;by_cases h0:br ⟨12,f,t,l,o,m,x⟩ p false false false false
 ·rw[dc_t h0];have HH0:=hid h0;clear h0;by_cases hq0:q=0
  ·subst hq0;go_wp2_with fail;go_ret;exact⟨rdt HR ⟨HH0,(by first|rfl|trivial)⟩,(uh HBL) _ B1⟩
  ·have e0:((q:Int)==0)=false:=bne (by omega);have h1:=hq0;go_wp2_with fail;go_ret;exact⟨rdf HR (λg=>h1 g.2),(uh HBL) _ B1⟩
 ·rw[dc_f h0];have HN9:=hid h0;clear h0;go_wp2_with fail;go_ret;exact⟨rdf HR (λg=>HN9 g.1),(uh HBL) _ B1⟩
theorem st_13(s:Sx nm w v n F vn vk p A q K)(a:Fv)(hk:a.k=13):
  Calls Tryz.prog 37 #[.agg #[v],fmv a vn vk] w λe w'=>e=.returned (.bool (dc (br a p false false false false/\ex F K 0 q)))/\Below w.heap.size w w':=by
 obtain⟨k,f,t,l,o,m,x⟩:=a;dsimp only at hk;subst hk;obtain⟨W2,hW2,HBL,HSY,hqI,HSQ,⟨pn,cn,rfl⟩,⟨pk,ck,rfl⟩,pf,cf,rfl⟩:=s.opn 13 f t l o m x 29 44;refine opR λR HR=>?_;clear s;go_enter Tryz.func37,Tryz.ntmps37;unfold fmv;go_wp2_with fail;rw[<-hW2];clear hW2;have B0:Below W2.heap.size W2 W2:=Below.refl _ _;obtain⟨c0,c1,c2,c3,c4,c5,c6,c7,c8,ct⟩:=(uh HSY).bz B0;go_wp2_with fail;refine((uh HSY).bare false false false false _ B0).mono ?_;rintro e w1 ⟨rfl,B1⟩;clear c0 c1 c2 c3 c4 c5 c6 c7 c8 ct;obtain⟨c0,c1,c2,c3,c4,c5,c6,c7,c8,ct⟩:=(uh HSY).bz B1;by_cases h0:br ⟨13,f,t,l,o,m,x⟩ p false false false false
 ·rw[dc_t h0];have HH0:=hid h0;clear h0;go_wp2_with fail;refine((uh HSY).exprs _ _ 0 q rfl (by first|rfl|omega) (by omega) (by omega) _ B1).mono ?_;rintro e w2 ⟨rfl,B2⟩;clear c0 c1 c2 c3 c4 c5 c6 c7 c8 ct;obtain⟨c0,c1,c2,c3,c4,c5,c6,c7,c8,ct⟩:=(uh HSY).bz B2;by_cases h1:ex F K 0 q
  ·rw[dc_t h1];have HH1:=hid h1;clear h1;go_wp2_with fail;go_ret;exact⟨rdt HR ⟨HH0,HH1⟩,(uh HBL) _ B2⟩
  ·rw[dc_f h1];have HN9:=hid h1;clear h1;go_wp2_with fail;go_ret;exact⟨rdf HR (λg=>HN9 g.2),(uh HBL) _ B2⟩
 ·rw[dc_f h0];have HN9:=hid h0;clear h0;go_wp2_with fail;go_ret;exact⟨rdf HR (λg=>HN9 g.1),(uh HBL) _ B1⟩
theorem st_14(s:Sx nm w v n F vn vk p A q K)(a:Fv)(hk:a.k=14):
  Calls Tryz.prog 37 #[.agg #[v],fmv a vn vk] w λe w'=>e=.returned (.bool (dc (br a p false false false true/\nd nm p A 1 2/\q=2/\kdk F K 0=1/\kdk F K 1=1)))/\Below w.heap.size w w':=by
 obtain⟨k,f,t,l,o,m,x⟩:=a;dsimp only at hk;subst hk;obtain⟨W2,hW2,HBL,HSY,hqI,HSQ,⟨pn,cn,rfl⟩,⟨pk,ck,rfl⟩,pf,cf,rfl⟩:=s.opn 14 f t l o m x 29 44;refine opR λR HR=>?_;clear s;go_enter Tryz.func37,Tryz.ntmps37;unfold fmv;go_wp2_with fail;rw[<-hW2];clear hW2;have B0:Below W2.heap.size W2 W2:=Below.refl _ _;obtain⟨c0,c1,c2,c3,c4,c5,c6,c7,c8,ct⟩:=(uh HSY).bz B0;go_wp2_with fail;refine((uh HSY).bare false false false true _ B0).mono ?_;rintro e w1 ⟨rfl,B1⟩;clear c0 c1 c2 c3 c4 c5 c6 c7 c8 ct;obtain⟨c0,c1,c2,c3,c4,c5,c6,c7,c8,ct⟩:=(uh HSY).bz B1;by_cases h0:br ⟨14,f,t,l,o,m,x⟩ p false false false true
 ·rw[dc_t h0];have HH0:=hid h0;clear h0;go_wp2_with fail;refine((uh HSY).named 1 2 (by omega) (by omega) _ B1).mono ?_;rintro e w2 ⟨rfl,B2⟩;clear c0 c1 c2 c3 c4 c5 c6 c7 c8 ct;obtain⟨c0,c1,c2,c3,c4,c5,c6,c7,c8,ct⟩:=(uh HSY).bz B2;by_cases h1:nd nm p A 1 2
  ·rw[dc_t h1];have HH1:=hid h1;clear h1;by_cases hq0:q=2
   ·subst hq0;go_wp2_with fail;refine((uh HSY).kid _ 0 (by first|rfl|omega) (by omega) _ B2).mono ?_;rintro e w3 ⟨rfl,B3⟩;clear c0 c1 c2 c3 c4 c5 c6 c7 c8 ct;obtain⟨c0,c1,c2,c3,c4,c5,c6,c7,c8,ct⟩:=(uh HSY).bz B3;by_cases h3:kdk F K 0=1
    ·have ek3:=beq1 h3;have HH3:=hid h3;clear h3;go_wp2_with fail;refine((uh HSY).kid _ 1 (by first|rfl|omega) (by omega) _ B3).mono ?_;rintro e w4 ⟨rfl,B4⟩;clear c0 c1 c2 c3 c4 c5 c6 c7 c8 ct;obtain⟨c0,c1,c2,c3,c4,c5,c6,c7,c8,ct⟩:=(uh HSY).bz B4;by_cases h4:kdk F K 1=1
     ·have ek4:=beq1 h4;have HH4:=hid h4;clear h4;go_wp2_with fail;go_ret;exact⟨rdt HR ⟨HH0,HH1,(by first|rfl|trivial),HH3,HH4⟩,(uh HBL) _ B4⟩
     ·have ek4:=bne h4;have HN9:=hid h4;clear h4;go_wp2_with fail;go_ret;exact⟨rdf HR (λg=>HN9 g.2.2.2.2),(uh HBL) _ B4⟩
    ·have ek3:=bne h3;have HN9:=hid h3;clear h3;go_wp2_with fail;go_ret;exact⟨rdf HR (λg=>HN9 g.2.2.2.1),(uh HBL) _ B3⟩
   ·have e0:((q:Int)==2)=false:=bne (by omega);have h2:=hq0;go_wp2_with fail;go_ret;exact⟨rdf HR (λg=>h2 g.2.2.1),(uh HBL) _ B2⟩
  ·rw[dc_f h1];have HN9:=hid h1;clear h1;go_wp2_with fail;go_ret;exact⟨rdf HR (λg=>HN9 g.2.1),(uh HBL) _ B2⟩
 ·rw[dc_f h0];have HN9:=hid h0;clear h0;go_wp2_with fail;go_ret;exact⟨rdf HR (λg=>HN9 g.1),(uh HBL) _ B1⟩
theorem st_15(s:Sx nm w v n F vn vk p A q K)(a:Fv)(hk:a.k=15):
  Calls Tryz.prog 37 #[.agg #[v],fmv a vn vk] w λe w'=>e=.returned (.bool (dc (br a p false false false false/\q=1/\ex F K 0 1)))/\Below w.heap.size w w':=by
 obtain⟨k,f,t,l,o,m,x⟩:=a;dsimp only at hk;subst hk;obtain⟨W2,hW2,HBL,HSY,hqI,HSQ,⟨pn,cn,rfl⟩,⟨pk,ck,rfl⟩,pf,cf,rfl⟩:=s.opn 15 f t l o m x 29 44;refine opR λR HR=>?_;clear s;go_enter Tryz.func37,Tryz.ntmps37;unfold fmv;go_wp2_with fail;rw[<-hW2];clear hW2;have B0:Below W2.heap.size W2 W2:=Below.refl _ _;obtain⟨c0,c1,c2,c3,c4,c5,c6,c7,c8,ct⟩:=(uh HSY).bz B0;go_wp2_with fail;refine((uh HSY).bare false false false false _ B0).mono ?_;rintro e w1 ⟨rfl,B1⟩;clear c0 c1 c2 c3 c4 c5 c6 c7 c8 ct;obtain⟨c0,c1,c2,c3,c4,c5,c6,c7,c8,ct⟩:=(uh HSY).bz B1;by_cases h0:br ⟨15,f,t,l,o,m,x⟩ p false false false false
 ·rw[dc_t h0];have HH0:=hid h0;clear h0;by_cases hq0:q=1
  ·subst hq0;go_wp2_with fail;refine((uh HSY).exprs _ _ 0 1 rfl (by first|rfl|omega) (by omega) (by omega) _ B1).mono ?_;rintro e w2 ⟨rfl,B2⟩;clear c0 c1 c2 c3 c4 c5 c6 c7 c8 ct;obtain⟨c0,c1,c2,c3,c4,c5,c6,c7,c8,ct⟩:=(uh HSY).bz B2;by_cases h2:ex F K 0 1
   ·rw[dc_t h2];have HH2:=hid h2;clear h2;go_wp2_with fail;go_ret;exact⟨rdt HR ⟨HH0,(by first|rfl|trivial),HH2⟩,(uh HBL) _ B2⟩
   ·rw[dc_f h2];have HN9:=hid h2;clear h2;go_wp2_with fail;go_ret;exact⟨rdf HR (λg=>HN9 g.2.2),(uh HBL) _ B2⟩
  ·have e0:((q:Int)==1)=false:=bne (by omega);have h1:=hq0;go_wp2_with fail;go_ret;exact⟨rdf HR (λg=>h1 g.2.1),(uh HBL) _ B1⟩
 ·rw[dc_f h0];have HN9:=hid h0;clear h0;go_wp2_with fail;go_ret;exact⟨rdf HR (λg=>HN9 g.1),(uh HBL) _ B1⟩
theorem st_1(s:Sx nm w v n F vn vk p A q K)(a:Fv)(hk:a.k=1):
    Calls Tryz.prog 37 #[.agg #[v],fmv a vn vk] w λe w'=>e=.returned (.bool (dc ((∀j,j<q->1<=kdk F K j/\kdk F K j<=16)/\br a p false false false false)))/\Below w.heap.size w w':=by
  obtain⟨k,f,t,l,o,m,x⟩:=a;dsimp only at hk;subst hk;obtain⟨W2,hW2,HBL,HSY,hqI,HSQ,⟨pn,cn,rfl⟩,⟨pk,ck,rfl⟩,pf,cf,rfl⟩:=s.opn 1 f t l o m x 29 44;refine opR λR HR=>?_;clear s;go_enter Tryz.func37,Tryz.ntmps37;unfold fmv;go_wp2_with fail;rw[<-hW2];clear hW2
  go_loopw [18] (λsr wr=>∃i:Nat,sr=.int .i64 i/\i<=q/\Hid (Below W2.heap.size W2 wr)/\Hid (∀j,j<i->1<=kdk F K j/\kdk F K j<=16)) (λsr _=>q-(intOf sr).toNat)
  case atStart=>exact⟨0,rfl,Nat.zero_le _,Below.refl _ _,(λj hj=>by omega:∀j,j<0->_)⟩
  case round=>
    obtain⟨i,rfl,hin,HB,HI⟩:=hrel;have B:=(uh HB)
    have hI:=(uh HI)
    obtain⟨c0,c1,c2,c3,c4,c5,c6,c7,c8,ct⟩:=(uh HSY).bz B;rcases Nat.lt_or_ge i q with hi|hi
    · have hiI:(i:Int)<(q:Int):=by omega
      have HK:Hid (∀W,Below W2.heap.size W2 W->Calls Tryz.prog 67 #[.agg #[.slice pf n cf],fmv ⟨1,f,t,l,o,m,x⟩ (.slice pn p cn) (.slice pk q ck),.int .i64 i] W λe w'=>e=.returned (.int .i64 (kdk F K i))/\Below W2.heap.size W2 w'):=(λW hb=>(uh HSY).kid (i:Int) i rfl hi W hb:∀W,_)
      by_cases hg:1<=kdk F K i/\kdk F K i<=16
      · have HX : Hid (∀ j, j < i + 1 → 1 ≤ kdk F K j ∧ kdk F K j ≤ 16) := (fun j hj => by
          by_cases e:j=i
          · rw[e];exact hg
          · exact hI j (by omega):∀j,_)
        have HG:Hid (1<=kdk F K i/\kdk F K i<=16):=hg;clear hI HI hin hg B;go_wp2_with fail;refine((uh HK) _ HB).mono ?_;rintro e w1 ⟨rfl,B1⟩;have HB1:Hid (Below W2.heap.size W2 w1):=B1;have hg:=(uh HG)
        have hst:=λW=>sp_stat (kdk F K i) W;rw[dc_t hg]at hst;have HST:Hid (∀W,Calls Tryz.prog 36 #[.int .i64 (kdk F K i)] W λe w'=>e=.returned (.bool true)/\w'=W):=hst;clear hst hg HG HK c0 c1 c2 c3 c4 c5 c6 c7 c8 ct B1;generalize kdk F K i=z at*;go_wp2_with fail;refine((uh HST) _).mono ?_;rintro e w2 ⟨rfl,rfl⟩;clear HST;go_wp2_with fail;go_roundw
        case rel=>exact⟨i+1,by go_num,by omega,HB1,HX⟩
        case measure=>simp[intOf];omega
      · have HN9:Hid (Nt (∀j,j<q->1<=kdk F K j/\kdk F K j<=16)):=(λg=>hg (g i hi):Nt _)
        have HG:Hid (Nt (1<=kdk F K i/\kdk F K i<=16)):=hg;clear hI HI hin hg B;go_wp2_with fail;refine((uh HK) _ HB).mono ?_;rintro e w1 ⟨rfl,B1⟩;have HB1:Hid (Below W2.heap.size W2 w1):=B1;have hg:¬(1<=kdk F K i/\kdk F K i<=16):=HG;have hst:=λW=>sp_stat (kdk F K i) W;rw[dc_f hg]at hst;have HST:Hid (∀W,Calls Tryz.prog 36 #[.int .i64 (kdk F K i)] W λe w'=>e=.returned (.bool false)/\w'=W):=hst;clear hst hg HG HK c0 c1 c2 c3 c4 c5 c6 c7 c8 ct B1;generalize kdk F K i=z at*;go_wp2_with fail;refine((uh HST) _).mono ?_;rintro e w2 ⟨rfl,rfl⟩;clear HST;go_wp2_with fail;go_ret;exact⟨rdf HR (λg=>HN9 g.1),(uh HBL) _ HB1⟩
    · obtain rfl:i=q:=by omega
      have HI2:Hid (∀j,j<i->1<=kdk F K j/\kdk F K j<=16):=hI;clear hI HI B;go_wp2_with fail;refine((uh HSY).bare false false false false _ HB).mono ?_;rintro e w1 ⟨rfl,B1⟩;have HB1:Hid (Below W2.heap.size W2 w1):=B1;clear B1 c0 c1 c2 c3 c4 c5 c6 c7 c8 ct;by_cases hb:br ⟨1,f,t,l,o,m,x⟩ p false false false false
      · rw[dc_t hb];have HBB:Hid (br ⟨1,f,t,l,o,m,x⟩ p false false false false):=hb;clear hb;go_wp2_with fail;go_ret;exact⟨rdt HR ⟨HI2,HBB⟩,(uh HBL) _ HB1⟩
      · rw[dc_f hb];have HBB:Hid (Nt (br ⟨1,f,t,l,o,m,x⟩ p false false false false)):=hb;clear hb;go_wp2_with fail;go_ret;exact⟨rdf HR (λg=>HBB g.2),(uh HBL) _ HB1⟩
theorem xp_35(s:Sx nm w v n F vn vk p A q K)(a:Fv)(hk:a.k=35):
    Calls Tryz.prog 38 #[.agg #[v],fmv a vn vk] w λe w'=>e=.returned (.bool (dc ((∀j,j<q->40<=kdk F K j/\kdk F K j<=42)/\br a p false false false false)))/\Below w.heap.size w w':=by
  obtain⟨k,f,t,l,o,m,x⟩:=a;dsimp only at hk;subst hk;obtain⟨W2,hW2,HBL,HSY,hqI,HSQ,⟨pn,cn,rfl⟩,⟨pk,ck,rfl⟩,pf,cf,rfl⟩:=s.opn 35 f t l o m x 29 44;refine opR λR HR=>?_;clear s;go_enter Tryz.func38,Tryz.ntmps38;unfold fmv;go_wp2_with fail;rw[<-hW2];clear hW2
  go_loopw [200] (λsr wr=>∃i:Nat,sr=.int .i64 i/\i<=q/\Hid (Below W2.heap.size W2 wr)/\Hid (∀j,j<i->40<=kdk F K j/\kdk F K j<=42)) (λsr _=>q-(intOf sr).toNat)
  case atStart=>exact⟨0,rfl,Nat.zero_le _,Below.refl _ _,(λj hj=>by omega:∀j,j<0->_)⟩
  case round=>
    obtain⟨i,rfl,hin,HB,HI⟩:=hrel;have B:=(uh HB)
    have hI:=(uh HI)
    obtain⟨c0,c1,c2,c3,c4,c5,c6,c7,c8,ct⟩:=(uh HSY).bz B;rcases Nat.lt_or_ge i q with hi|hi
    · have hiI:(i:Int)<(q:Int):=by omega
      have HK:Hid (∀W,Below W2.heap.size W2 W->Calls Tryz.prog 67 #[.agg #[.slice pf n cf],fmv ⟨35,f,t,l,o,m,x⟩ (.slice pn p cn) (.slice pk q ck),.int .i64 i] W λe w'=>e=.returned (.int .i64 (kdk F K i))/\Below W2.heap.size W2 w'):=(λW hb=>(uh HSY).kid (i:Int) i rfl hi W hb:∀W,_)
      by_cases hg:40<=kdk F K i/\kdk F K i<=42
      · have HX : Hid (∀ j, j < i + 1 → 40 ≤ kdk F K j ∧ kdk F K j ≤ 42) := (fun j hj => by
          by_cases e:j=i
          · rw[e];exact hg
          · exact hI j (by omega):∀j,_)
        have HG:Hid (40<=kdk F K i/\kdk F K i<=42):=hg;clear hI HI hin hg B;go_wp2_with fail;refine((uh HK) _ HB).mono ?_;rintro e w1 ⟨rfl,B1⟩;have HB1:Hid (Below W2.heap.size W2 w1):=B1;have hg:=(uh HG)
        have g1:¬kdk F K i<40:=by omega
        have g2:¬42<kdk F K i:=by omega
        clear hg HG HK c0 c1 c2 c3 c4 c5 c6 c7 c8 ct B1;generalize kdk F K i=z at*;go_wp2_with fail;go_roundw
        case rel=>exact⟨i+1,by go_num,by omega,HB1,HX⟩
        case measure=>simp[intOf];omega
      · have HN9:Hid (Nt (∀j,j<q->40<=kdk F K j/\kdk F K j<=42)):=(λg=>hg (g i hi):Nt _)
        have HG:Hid (Nt (40<=kdk F K i/\kdk F K i<=42)):=hg;clear hI HI hin hg B;go_wp2_with fail;refine((uh HK) _ HB).mono ?_;rintro e w1 ⟨rfl,B1⟩;have HB1:Hid (Below W2.heap.size W2 w1):=B1;have hg:¬(40<=kdk F K i/\kdk F K i<=42):=HG;clear HG HK c0 c1 c2 c3 c4 c5 c6 c7 c8 ct B1;generalize kdk F K i=z at*;have g0:z<40\/42<z:=by omega
        clear hg;rcases g0 with g0|g0
        · go_wp2_with fail;go_ret;exact⟨rdf HR (λg=>HN9 g.1),(uh HBL) _ HB1⟩
        · have g1:¬z<40:=by omega
          go_wp2_with fail;go_ret;exact⟨rdf HR (λg=>HN9 g.1),(uh HBL) _ HB1⟩
    · obtain rfl:i=q:=by omega
      have HI2:Hid (∀j,j<i->40<=kdk F K j/\kdk F K j<=42):=hI;clear hI HI B;go_wp2_with fail;refine((uh HSY).bare false false false false _ HB).mono ?_;rintro e w1 ⟨rfl,B1⟩;have HB1:Hid (Below W2.heap.size W2 w1):=B1;clear B1 c0 c1 c2 c3 c4 c5 c6 c7 c8 ct;by_cases hb:br ⟨35,f,t,l,o,m,x⟩ p false false false false
      · rw[dc_t hb];have HBB:Hid (br ⟨35,f,t,l,o,m,x⟩ p false false false false):=hb;clear hb;go_wp2_with fail;go_ret;exact⟨rdt HR ⟨HI2,HBB⟩,(uh HBL) _ HB1⟩
      · rw[dc_f hb];have HBB:Hid (Nt (br ⟨35,f,t,l,o,m,x⟩ p false false false false)):=hb;clear hb;go_wp2_with fail;go_ret;exact⟨rdf HR (λg=>HBB g.2),(uh HBL) _ HB1⟩
theorem st_7(s:Sx nm w v n F vn vk p A q K)(a:Fv)(hk:a.k=7):
  Calls Tryz.prog 37 #[.agg #[v],fmv a vn vk] w λe w'=>e=.returned (.bool (dc (br a p false false false false/\(q=2\/q=3)/\ex F K 0 1/\kdk F K 1=1/\(q=2\/kdk F K 2=1\/kdk F K 2=7))))/\Below w.heap.size w w':=by
 obtain⟨k,f,t,l,o,m,x⟩:=a;dsimp only at hk;subst hk;obtain⟨W2,hW2,HBL,HSY,hqI,HSQ,⟨pn,cn,rfl⟩,⟨pk,ck,rfl⟩,pf,cf,rfl⟩:=s.opn 7 f t l o m x 29 44;refine opR λR HR=>?_;clear s;go_enter Tryz.func37,Tryz.ntmps37;unfold fmv;go_wp2_with fail;rw[<-hW2];clear hW2;have B0:Below W2.heap.size W2 W2:=Below.refl _ _;obtain⟨c0,c1,c2,c3,c4,c5,c6,c7,c8,ct⟩:=(uh HSY).bz B0;go_wp2_with fail;refine((uh HSY).bare false false false false _ B0).mono ?_;rintro e w1 ⟨rfl,B1⟩;clear c0 c1 c2 c3 c4 c5 c6 c7 c8 ct;obtain⟨c0,c1,c2,c3,c4,c5,c6,c7,c8,ct⟩:=(uh HSY).bz B1;by_cases hb:br ⟨7,f,t,l,o,m,x⟩ p false false false false
 ·rw[dc_t hb];have HB0:Hid (br ⟨7,f,t,l,o,m,x⟩ p false false false false):=hb;clear hb;by_cases h2:q=2
  ·subst h2;go_wp2_with fail;refine((uh HSY).exprs 0 1 0 1 rfl rfl (by omega) (by omega) _ B1).mono ?_;rintro e w2 ⟨rfl,B2⟩;clear c0 c1 c2 c3 c4 c5 c6 c7 c8 ct;obtain⟨c0,c1,c2,c3,c4,c5,c6,c7,c8,ct⟩:=(uh HSY).bz B2;by_cases he:ex F K 0 1
   ·rw[dc_t he];have HE0:Hid (ex F K 0 1):=he;clear he;go_wp2_with fail;refine((uh HSY).kid 1 1 rfl (by omega) _ B2).mono ?_;rintro e w3 ⟨rfl,B3⟩;clear c0 c1 c2 c3 c4 c5 c6 c7 c8 ct;obtain⟨c0,c1,c2,c3,c4,c5,c6,c7,c8,ct⟩:=(uh HSY).bz B3;by_cases hk1:kdk F K 1=1
    ·have ek1:=beq1 hk1;have HK1:Hid (kdk F K 1=1):=hk1;have nk1:(kdk F K 1 !=1)=false:=by rw[hk1];rfl
     clear hk1;go_wp2_with fail;go_ret;exact⟨by rw[show R=_ from HR,dc_t ⟨HB0,(by first|exact Or.inl rfl|exact Or.inr rfl|exact Or.inl trivial|exact Or.inr trivial|trivial),HE0,HK1,(by first|exact Or.inl rfl|exact Or.inl trivial|trivial)⟩];first|rfl|(simp[*];done),(uh HBL) _ B3⟩
    ·have ek1:=bne hk1;have HK1:Hid (Nt (kdk F K 1=1)):=hk1;have nk1:(kdk F K 1 !=1)=true:=bne_iff_ne.2 hk1;clear hk1;go_wp2_with fail;go_ret;exact⟨by rw[show R=_ from HR,dc_f (λg=>HK1 g.2.2.2.1)];first|rfl|(simp[*];done),(uh HBL) _ B3⟩
   ·rw[dc_f he];have HE0:Hid (Nt (ex F K 0 1)):=he;clear he;go_wp2_with fail;go_ret;exact⟨by rw[show R=_ from HR,dc_f (λg=>HE0 g.2.2.1)];first|rfl|(simp[*];done),(uh HBL) _ B2⟩
  ·by_cases h3:q=3
   ·subst h3;go_wp2_with fail;refine((uh HSY).exprs 0 1 0 1 rfl rfl (by omega) (by omega) _ B1).mono ?_;rintro e w2 ⟨rfl,B2⟩;clear c0 c1 c2 c3 c4 c5 c6 c7 c8 ct;obtain⟨c0,c1,c2,c3,c4,c5,c6,c7,c8,ct⟩:=(uh HSY).bz B2;by_cases he:ex F K 0 1
    ·rw[dc_t he];have HE0:Hid (ex F K 0 1):=he;clear he;go_wp2_with fail;refine((uh HSY).kid 1 1 rfl (by omega) _ B2).mono ?_;rintro e w3 ⟨rfl,B3⟩;clear c0 c1 c2 c3 c4 c5 c6 c7 c8 ct;obtain⟨c0,c1,c2,c3,c4,c5,c6,c7,c8,ct⟩:=(uh HSY).bz B3;by_cases hk1:kdk F K 1=1
     ·have ek1:=beq1 hk1;have HK1:Hid (kdk F K 1=1):=hk1;have nk1:(kdk F K 1 !=1)=false:=by rw[hk1];rfl
      clear hk1;go_wp2_with fail;refine((uh HSY).kid 2 2 rfl (by omega) _ B3).mono ?_;rintro e w4 ⟨rfl,B4⟩;clear c0 c1 c2 c3 c4 c5 c6 c7 c8 ct;obtain⟨c0,c1,c2,c3,c4,c5,c6,c7,c8,ct⟩:=(uh HSY).bz B4;by_cases hk2:kdk F K 2=1
      ·have ek2:=beq1 hk2;have HK2:Hid (kdk F K 2=1):=hk2;clear hk2;go_wp2_with fail;go_ret;exact⟨by rw[show R=_ from HR,dc_t ⟨HB0,(by first|exact Or.inl rfl|exact Or.inr rfl|exact Or.inl trivial|exact Or.inr trivial|trivial),HE0,HK1,Or.inr (Or.inl HK2)⟩];first|rfl|(simp[*];done),(uh HBL) _ B4⟩
      ·have ek2:=bne hk2;have HK2:Hid (Nt (kdk F K 2=1)):=hk2;clear hk2;go_wp2_with fail;refine((uh HSY).kid 2 2 rfl (by omega) _ B4).mono ?_;rintro e w5 ⟨rfl,B5⟩;clear c0 c1 c2 c3 c4 c5 c6 c7 c8 ct;obtain⟨c0,c1,c2,c3,c4,c5,c6,c7,c8,ct⟩:=(uh HSY).bz B5;by_cases hk3:kdk F K 2=7
       ·have ek3:=beq1 hk3;have HK3:Hid (kdk F K 2=7):=hk3;clear hk3;go_wp2_with fail;go_ret;exact⟨by rw[show R=_ from HR,dc_t ⟨HB0,(by first|exact Or.inl rfl|exact Or.inr rfl|exact Or.inl trivial|exact Or.inr trivial|trivial),HE0,HK1,Or.inr (Or.inr HK3)⟩];first|rfl|(simp[*];done),(uh HBL) _ B5⟩
       ·have ek3:=bne hk3;have HK3:Hid (Nt (kdk F K 2=7)):=hk3;clear hk3;go_wp2_with fail;go_ret;exact⟨by rw[show R=_ from HR,dc_f (λg=>by rcases g.2.2.2.2 with g1|g1|g1;(exact absurd g1 (by omega));(exact HK2 g1);(exact HK3 g1))];first|rfl|(simp[*];done),(uh HBL) _ B5⟩
     ·have ek1:=bne hk1;have HK1:Hid (Nt (kdk F K 1=1)):=hk1;have nk1:(kdk F K 1 !=1)=true:=bne_iff_ne.2 hk1;clear hk1;go_wp2_with fail;go_ret;exact⟨by rw[show R=_ from HR,dc_f (λg=>HK1 g.2.2.2.1)];first|rfl|(simp[*];done),(uh HBL) _ B3⟩
    ·rw[dc_f he];have HE0:Hid (Nt (ex F K 0 1)):=he;clear he;go_wp2_with fail;go_ret;exact⟨by rw[show R=_ from HR,dc_f (λg=>HE0 g.2.2.1)];first|rfl|(simp[*];done),(uh HBL) _ B2⟩
   ·have HQ:Hid (Nt (q=2\/q=3)):=(λg=>g.elim h2 h3:Nt _)
    rcases Nat.lt_or_ge q 2 with h4|h4
    ·have e4:(q:Int)<2:=by omega
     go_wp2_with fail;go_ret;exact⟨by rw[show R=_ from HR,dc_f (λg=>HQ g.2.1)];first|rfl|(simp[*];done),(uh HBL) _ B1⟩
    ·have e4:¬(q:Int)<2:=by omega
     have e5:(3:Int)<(q:Int):=by omega
     go_wp2_with fail;go_ret;exact⟨by rw[show R=_ from HR,dc_f (λg=>HQ g.2.1)];first|rfl|(simp[*];done),(uh HBL) _ B1⟩
 ·rw[dc_f hb];have HB0:Hid (Nt (br ⟨7,f,t,l,o,m,x⟩ p false false false false)):=hb;clear hb;go_wp2_with fail;go_ret;exact⟨by rw[show R=_ from HR,dc_f (λg=>HB0 g.1)];first|rfl|(simp[*];done),(uh HBL) _ B1⟩
theorem st_5(s:Sx nm w v n F vn vk p A q K)(a:Fv)(hk:a.k=5):
  Calls Tryz.prog 37 #[.agg #[v],fmv a vn vk] w λe w'=>e=.returned (.bool (dc (br a p false true false false/\1<=a.m/\a.m<(q:Int)/\(∀j,j<a.m.toNat->kdk F K j=26\/kdk F K j=32\/kdk F K j=33)/\ex F K a.m.toNat q)))/\Below w.heap.size w w':=by
 obtain⟨k,f,t,l,o,m,x⟩:=a;dsimp only at hk;subst hk;obtain⟨W2,hW2,HBL,HSY,hqI,HSQ,⟨pn,cn,rfl⟩,⟨pk,ck,rfl⟩,pf,cf,rfl⟩:=s.opn 5 f t l o m x 29 44;refine opR λR HR=>?_;clear s;go_enter Tryz.func37,Tryz.ntmps37;unfold fmv;go_wp2_with fail;rw[<-hW2];clear hW2;have B0:Below W2.heap.size W2 W2:=Below.refl _ _;obtain⟨c0,c1,c2,c3,c4,c5,c6,c7,c8,ct⟩:=(uh HSY).bz B0;go_wp2_with fail;refine((uh HSY).bare false true false false _ B0).mono ?_;rintro e w1 ⟨rfl,B1⟩;clear c0 c1 c2 c3 c4 c5 c6 c7 c8 ct;obtain⟨c0,c1,c2,c3,c4,c5,c6,c7,c8,ct⟩:=(uh HSY).bz B1;by_cases hb:br ⟨5,f,t,l,o,m,x⟩ p false true false false
 ·rw[dc_t hb];have HB0:Hid (br ⟨5,f,t,l,o,m,x⟩ p false true false false):=hb;clear hb;rcases Int.lt_or_le m 1 with h1|h1
  ·have HN:Hid (Nt (1<=m)):=(λg=>by omega:Nt _)
   go_wp2_with fail;go_ret;exact⟨by rw[show R=_ from HR,dc_f (λg=>HN g.2.1)];first|rfl|(simp[*];done),(uh HBL) _ B1⟩
  ·have h1':¬m<1:=by omega
   rcases Int.lt_or_le m (q:Int)with h2|h2
   ·have h2':¬(q:Int)<=m:=by omega
    obtain⟨M,hM⟩:∃M:Nat,m=(M:Int):=⟨m.toNat,by omega⟩
    subst hM;have HM:Hid (((M:Int)).toNat=M):=Int.toNat_natCast M;have HB1:Hid (Below W2.heap.size W2 w1):=B1;have HQ:Hid (1<=(M:Int)/\(M:Int)<(q:Int)):=(⟨h1,h2⟩:_/\_)
    clear B0 B1;go_wp2_with fail;have d1:decide (q<=M)=false:=decide_eq_false (by omega);have d0:decide ((M:Int)<1)=false:=decide_eq_false (by omega);simp only[d0,d1,Bool.or_false];clear d0 d1 h1 h1' h2 h2'
    go_loopw [7] (λsr wr=>∃i:Nat,sr=.int .i64 i/\i<=M/\Hid (Below W2.heap.size W2 wr)/\Hid (∀j,j<i->kdk F K j=26\/kdk F K j=32\/kdk F K j=33)) (λsr _=>M-(intOf sr).toNat)
    case atStart=>exact⟨0,rfl,Nat.zero_le _,HB1,(λj hj=>by omega:∀j,j<0->_)⟩
    case round=>
     clear c0 c1 c2 c3 c4 c5 c6 c7 c8 ct;obtain⟨i,rfl,hin,HB,HI⟩:=hrel;have B:=(uh HB)
     have hI:=(uh HI)
     obtain⟨c0,c1,c2,c3,c4,c5,c6,c7,c8,ct⟩:=(uh HSY).bz B;rcases Nat.lt_or_ge i M with hi|hi
     ·have hiI:(i:Int)<(M:Int):=by omega
      have HK:Hid (∀W,Below W2.heap.size W2 W->Calls Tryz.prog 67 #[.agg #[.slice pf n cf],fmv ⟨5,f,t,l,o,(M:Int),x⟩ (.slice pn p cn) (.slice pk q ck),.int .i64 i] W λe w'=>e=.returned (.int .i64 (kdk F K i))/\Below W2.heap.size W2 w'):=(λW hb=>(uh HSY).kid (i:Int) i rfl (by have:=(uh HQ).2;omega) W hb:∀W,_)
      have hst:=λW=>sp_target (kdk F K i) W;by_cases hg:kdk F K i=26\/kdk F K i=32\/kdk F K i=33
      ·rw[dc_t hg]at hst
       have HX:Hid (∀j,j<i+1->kdk F K j=26\/kdk F K j=32\/kdk F K j=33):=(λj hj=>by
        by_cases e:j=i
        ·rw[e];exact hg
        ·exact hI j (by omega):∀j,_)
       have HST:Hid (∀W,Calls Tryz.prog 71 #[.int .i64 (kdk F K i)] W λe w'=>e=.returned (.bool true)/\w'=W):=hst;clear hI HI hin hg B hst;go_wp2_with fail;refine((uh HK) _ HB).mono ?_;rintro e w2 ⟨rfl,B2⟩;have HB2:Hid (Below W2.heap.size W2 w2):=B2;clear HK c0 c1 c2 c3 c4 c5 c6 c7 c8 ct B2;generalize kdk F K i=z at*;go_wp2_with fail;refine((uh HST) _).mono ?_;rintro e w3 ⟨rfl,rfl⟩;clear HST;go_wp2_with fail;go_roundw
       case rel=>exact⟨i+1,by go_num,by omega,HB2,HX⟩
       case measure=>simp[intOf];omega
      ·rw[dc_f hg]at hst;have HN9:Hid (Nt (∀j,j<(M:Int).toNat->kdk F K j=26\/kdk F K j=32\/kdk F K j=33)):=(λg=>hg (g i (by omega)):Nt _)
       have HST:Hid (∀W,Calls Tryz.prog 71 #[.int .i64 (kdk F K i)] W λe w'=>e=.returned (.bool false)/\w'=W):=hst;clear hI HI hin hg B hst;go_wp2_with fail;refine((uh HK) _ HB).mono ?_;rintro e w2 ⟨rfl,B2⟩;have HB2:Hid (Below W2.heap.size W2 w2):=B2;clear HK c0 c1 c2 c3 c4 c5 c6 c7 c8 ct B2;generalize kdk F K i=z at*;go_wp2_with fail;refine((uh HST) _).mono ?_;rintro e w3 ⟨rfl,rfl⟩;clear HST;go_wp2_with fail;go_ret;exact⟨by rw[show R=_ from HR,dc_f (λg=>HN9 g.2.2.2.1)];first|rfl|(simp[*];done),(uh HBL) _ HB2⟩
     ·obtain rfl:i=M:=by omega
      have HI2:Hid (∀j,j<(i:Int).toNat->kdk F K j=26\/kdk F K j=32\/kdk F K j=33):=(λj hj=>hI j (by omega):∀j,_)
      clear hI HI B;go_wp2_with fail;refine((uh HSY).exprs _ _ i q rfl rfl (Nat.le_refl _) (by have:=(uh HQ).2;omega) _ HB).mono ?_;rintro e w2 ⟨rfl,B2⟩;have HB2:Hid (Below W2.heap.size W2 w2):=B2;clear B2 c0 c1 c2 c3 c4 c5 c6 c7 c8 ct;by_cases he:ex F K i q
      ·rw[dc_t he];have HE:Hid (ex F K (i:Int).toNat q):=by rw[Int.toNat_natCast];exact he
       have HR2:Hid (R=true):=(uh HR).trans (dc_t ⟨HB0,(uh HQ).1,(uh HQ).2,HI2,HE⟩);clear he;go_wp2_with fail;go_ret;exact⟨by rw[show R=true from HR2];rfl,(uh HBL) _ HB2⟩
      ·rw[dc_f he];have HR2:Hid (R=false):=(uh HR).trans (dc_f (λg=>he (by have:=g.2.2.2.2;rwa [Int.toNat_natCast]at this)));clear he;go_wp2_with fail;go_ret;exact⟨by rw[show R=false from HR2];rfl,(uh HBL) _ HB2⟩
   ·have HN:Hid (Nt (m<(q:Int))):=(λg=>by omega:Nt _)
    go_wp2_with fail;go_ret;exact⟨by rw[show R=_ from HR,dc_f (λg=>HN g.2.2.1)];first|rfl|(simp[*];done),(uh HBL) _ B1⟩
 ·rw[dc_f hb];have HB0:Hid (Nt (br ⟨5,f,t,l,o,m,x⟩ p false true false false)):=hb;clear hb;go_wp2_with fail;go_ret;exact⟨by rw[show R=_ from HR,dc_f (λg=>HB0 g.1)];first|rfl|(simp[*];done),(uh HBL) _ B1⟩
