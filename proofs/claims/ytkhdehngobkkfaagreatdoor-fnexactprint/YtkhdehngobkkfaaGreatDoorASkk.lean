import Derived.Test.YtkhdehngobkkfaaGreatDoorASkf
import Derived.Test.YtkhdehngobkkfaaGreatDoorASkxa
set_option maxRecDepth 100000
set_option maxHeartbeats 8000000
namespace Go.Proofs.YtkhdehngobkkfaaGreatDoor.Fo
open Go.ChangeShapes Go.WideShapes Go.ChangeAt Go.RowKit
set_option linter.unusedVariables false
variable {F:Nat->Gv}{a:Fv}{p q n i g h:Nat}{A:Nat->ByteArray}{K D:Nat->Int}{w W W':World}{v vn vk:Value}{x:Int}
def shk(nm fl:ByteArray->Prop)(F:Nat->Gv)(a:Fv)(p:Nat)(A:Nat->ByteArray)(q:Nat)(K:Nat->Int):Prop:=
 if a.k=1 then((∀j,j<q->1<=kdk F K j/\kdk F K j<=16)/\br a p false false false false)
 else if a.k=2 then(br a p false false false true/\nd nm p A 1 200/\ex F K 0 q)
 else if a.k=3 then(br a p false false false true/\nd nm p A 1 1/\q=1/\ex F K 0 1)
 else if a.k=4 then(br a p false false false true/\nd nm p A 1 1/\q=1/\kdk F K 0=36)
 else if a.k=5 then(br a p false true false false/\1<=a.m/\a.m<(q:Int)/\(∀j,j<a.m.toNat->kdk F K j=26\/kdk F K j=32\/kdk F K j=33)/\ex F K a.m.toNat q)
 else if a.k=6 then(br a p false false false false/\q=1/\kdk F K 0=34)
 else if a.k=7 then(br a p false false false false/\(q=2\/q=3)/\ex F K 0 1/\kdk F K 1=1/\(q=2\/kdk F K 2=1\/kdk F K 2=7))
 else if a.k=8 then(br a p false false false false/\q=2/\ex F K 0 1/\kdk F K 1=1)
 else if a.k=9 then(br a p false false false true/\nd nm p A 1 1/\(q=3\/q=4)/\ex F K 0 (q-1)/\kdk F K (q-1)=1)
 else if a.k=10 then(br a p false false false true/\nd nm p A 1 200/\q=2/\ex F K 0 1/\kdk F K 1=1)
 else if a.k=11 then(br a p false false false false/\q=0)
 else if a.k=12 then(br a p false false false false/\q=0)
 else if a.k=13 then(br a p false false false false/\ex F K 0 q)
 else if a.k=14 then(br a p false false false true/\nd nm p A 1 2/\q=2/\kdk F K 0=1/\kdk F K 1=1)
 else if a.k=15 then(br a p false false false false/\q=1/\ex F K 0 1)
 else if a.k=16 then(br a p false false false false/\q=1/\kdk F K 0=34)
 else if a.k=20 then(q=0/\br a p false false false false)
 else if a.k=21 then(q=0/\br a p false false false false)
 else if a.k=22 then(q=0/\br a p false false false false)
 else if a.k=23 then(q=0/\br a p false true false false)
 else if a.k=24 then(q=0/\br a p false false true false/\fl a.x)
 else if a.k=25 then(q=0/\br a p false false true false/\a.x.size<=4000)
 else if a.k=26 then(q=0/\br a p false false true false/\nm a.x)
 else if a.k=27 then(q=0/\br a p false false false false)
 else if a.k=28 then(q=2/\ex F K 0 2/\br a p false false false false)
 else if a.k=29 then(q=2/\ex F K 0 2/\br a p false false false false)
 else if a.k=30 then(q=1/\ex F K 0 1/\br a p true false false false/\19<=a.o/\a.o<=22)
 else if a.k=31 then(q=2/\ex F K 0 2/\br a p true false false false/\1<=a.o/\a.o<=18)
 else if a.k=32 then(q=2/\ex F K 0 2/\kdk F K 0≠27/\br a p false false false false)
 else if a.k=33 then(q=1/\ex F K 0 1/\kdk F K 0≠27/\br a p false false true false/\nm a.x)
 else if a.k=34 then(1<=q/\ex F K 0 q/\kdk F K 0≠27/\br a p false false false false)
 else if a.k=35 then((∀j,j<q->40<=kdk F K j/\kdk F K j<=42)/\br a p false false false false)
 else if a.k=36 then(q=1/\kdk F K 0=1/\br a p true false false true/\nd nm p A 0 200/\(a.o=0\/a.o=1))
 else if a.k=37 then(q=1/\(kdk F K 0=34\/kdk F K 0=27)/\br a p false false false false)
 else if a.k=40 then(q=1/\ex F K 0 1/\br a p false false false false)
 else if a.k=41 then(q=2/\ex F K 0 2/\br a p false false false false)
 else if a.k=42 then(q=1/\ex F K 0 1/\br a p false false true false/\nm a.x)
 else False
theorem shk_1{nm fl:ByteArray->Prop}(h:a.k=1):shk nm fl F a p A q K=((∀j,j<q->1<=kdk F K j/\kdk F K j<=16)/\br a p false false false false):=by
 unfold shk;exact if_pos h
theorem shk_2{nm fl:ByteArray->Prop}(h:a.k=2):shk nm fl F a p A q K=(br a p false false false true/\nd nm p A 1 200/\ex F K 0 q):=by
 unfold shk
 iterate 1 rw[if_neg (by omega)]
 exact if_pos h
theorem shk_3{nm fl:ByteArray->Prop}(h:a.k=3):shk nm fl F a p A q K=(br a p false false false true/\nd nm p A 1 1/\q=1/\ex F K 0 1):=by
 unfold shk
 iterate 2 rw[if_neg (by omega)]
 exact if_pos h
theorem shk_4{nm fl:ByteArray->Prop}(h:a.k=4):shk nm fl F a p A q K=(br a p false false false true/\nd nm p A 1 1/\q=1/\kdk F K 0=36):=by
 unfold shk
 iterate 3 rw[if_neg (by omega)]
 exact if_pos h
theorem shk_5{nm fl:ByteArray->Prop}(h:a.k=5):shk nm fl F a p A q K=(br a p false true false false/\1<=a.m/\a.m<(q:Int)/\(∀j,j<a.m.toNat->kdk F K j=26\/kdk F K j=32\/kdk F K j=33)/\ex F K a.m.toNat q):=by
 unfold shk
 iterate 4 rw[if_neg (by omega)]
 exact if_pos h
theorem shk_6{nm fl:ByteArray->Prop}(h:a.k=6):shk nm fl F a p A q K=(br a p false false false false/\q=1/\kdk F K 0=34):=by
 unfold shk
 iterate 5 rw[if_neg (by omega)]
 exact if_pos h
theorem shk_7{nm fl:ByteArray->Prop}(h:a.k=7):shk nm fl F a p A q K=(br a p false false false false/\(q=2\/q=3)/\ex F K 0 1/\kdk F K 1=1/\(q=2\/kdk F K 2=1\/kdk F K 2=7)):=by
 unfold shk
 iterate 6 rw[if_neg (by omega)]
 exact if_pos h
theorem shk_8{nm fl:ByteArray->Prop}(h:a.k=8):shk nm fl F a p A q K=(br a p false false false false/\q=2/\ex F K 0 1/\kdk F K 1=1):=by
 unfold shk
 iterate 7 rw[if_neg (by omega)]
 exact if_pos h
theorem shk_9{nm fl:ByteArray->Prop}(h:a.k=9):shk nm fl F a p A q K=(br a p false false false true/\nd nm p A 1 1/\(q=3\/q=4)/\ex F K 0 (q-1)/\kdk F K (q-1)=1):=by
 unfold shk
 iterate 8 rw[if_neg (by omega)]
 exact if_pos h
theorem shk_10{nm fl:ByteArray->Prop}(h:a.k=10):shk nm fl F a p A q K=(br a p false false false true/\nd nm p A 1 200/\q=2/\ex F K 0 1/\kdk F K 1=1):=by
 unfold shk
 iterate 9 rw[if_neg (by omega)]
 exact if_pos h
theorem shk_11{nm fl:ByteArray->Prop}(h:a.k=11):shk nm fl F a p A q K=(br a p false false false false/\q=0):=by
 unfold shk
 iterate 10 rw[if_neg (by omega)]
 exact if_pos h
theorem shk_12{nm fl:ByteArray->Prop}(h:a.k=12):shk nm fl F a p A q K=(br a p false false false false/\q=0):=by
 unfold shk
 iterate 11 rw[if_neg (by omega)]
 exact if_pos h
theorem shk_13{nm fl:ByteArray->Prop}(h:a.k=13):shk nm fl F a p A q K=(br a p false false false false/\ex F K 0 q):=by
 unfold shk
 iterate 12 rw[if_neg (by omega)]
 exact if_pos h
theorem shk_14{nm fl:ByteArray->Prop}(h:a.k=14):shk nm fl F a p A q K=(br a p false false false true/\nd nm p A 1 2/\q=2/\kdk F K 0=1/\kdk F K 1=1):=by
 unfold shk
 iterate 13 rw[if_neg (by omega)]
 exact if_pos h
theorem shk_15{nm fl:ByteArray->Prop}(h:a.k=15):shk nm fl F a p A q K=(br a p false false false false/\q=1/\ex F K 0 1):=by
 unfold shk
 iterate 14 rw[if_neg (by omega)]
 exact if_pos h
theorem shk_16{nm fl:ByteArray->Prop}(h:a.k=16):shk nm fl F a p A q K=(br a p false false false false/\q=1/\kdk F K 0=34):=by
 unfold shk
 iterate 15 rw[if_neg (by omega)]
 exact if_pos h
theorem shk_20{nm fl:ByteArray->Prop}(h:a.k=20):shk nm fl F a p A q K=(q=0/\br a p false false false false):=by
 unfold shk
 iterate 16 rw[if_neg (by omega)]
 exact if_pos h
theorem shk_21{nm fl:ByteArray->Prop}(h:a.k=21):shk nm fl F a p A q K=(q=0/\br a p false false false false):=by
 unfold shk
 iterate 17 rw[if_neg (by omega)]
 exact if_pos h
theorem shk_22{nm fl:ByteArray->Prop}(h:a.k=22):shk nm fl F a p A q K=(q=0/\br a p false false false false):=by
 unfold shk
 iterate 18 rw[if_neg (by omega)]
 exact if_pos h
theorem shk_23{nm fl:ByteArray->Prop}(h:a.k=23):shk nm fl F a p A q K=(q=0/\br a p false true false false):=by
 unfold shk
 iterate 19 rw[if_neg (by omega)]
 exact if_pos h
theorem shk_24{nm fl:ByteArray->Prop}(h:a.k=24):shk nm fl F a p A q K=(q=0/\br a p false false true false/\fl a.x):=by
 unfold shk
 iterate 20 rw[if_neg (by omega)]
 exact if_pos h
theorem shk_25{nm fl:ByteArray->Prop}(h:a.k=25):shk nm fl F a p A q K=(q=0/\br a p false false true false/\a.x.size<=4000):=by
 unfold shk
 iterate 21 rw[if_neg (by omega)]
 exact if_pos h
theorem shk_26{nm fl:ByteArray->Prop}(h:a.k=26):shk nm fl F a p A q K=(q=0/\br a p false false true false/\nm a.x):=by
 unfold shk
 iterate 22 rw[if_neg (by omega)]
 exact if_pos h
theorem shk_27{nm fl:ByteArray->Prop}(h:a.k=27):shk nm fl F a p A q K=(q=0/\br a p false false false false):=by
 unfold shk
 iterate 23 rw[if_neg (by omega)]
 exact if_pos h
theorem shk_28{nm fl:ByteArray->Prop}(h:a.k=28):shk nm fl F a p A q K=(q=2/\ex F K 0 2/\br a p false false false false):=by
 unfold shk
 iterate 24 rw[if_neg (by omega)]
 exact if_pos h
theorem shk_29{nm fl:ByteArray->Prop}(h:a.k=29):shk nm fl F a p A q K=(q=2/\ex F K 0 2/\br a p false false false false):=by
 unfold shk
 iterate 25 rw[if_neg (by omega)]
 exact if_pos h
theorem shk_30{nm fl:ByteArray->Prop}(h:a.k=30):shk nm fl F a p A q K=(q=1/\ex F K 0 1/\br a p true false false false/\19<=a.o/\a.o<=22):=by
 unfold shk
 iterate 26 rw[if_neg (by omega)]
 exact if_pos h
theorem shk_31{nm fl:ByteArray->Prop}(h:a.k=31):shk nm fl F a p A q K=(q=2/\ex F K 0 2/\br a p true false false false/\1<=a.o/\a.o<=18):=by
 unfold shk
 iterate 27 rw[if_neg (by omega)]
 exact if_pos h
theorem shk_32{nm fl:ByteArray->Prop}(h:a.k=32):shk nm fl F a p A q K=(q=2/\ex F K 0 2/\kdk F K 0≠27/\br a p false false false false):=by
 unfold shk
 iterate 28 rw[if_neg (by omega)]
 exact if_pos h
theorem shk_33{nm fl:ByteArray->Prop}(h:a.k=33):shk nm fl F a p A q K=(q=1/\ex F K 0 1/\kdk F K 0≠27/\br a p false false true false/\nm a.x):=by
 unfold shk
 iterate 29 rw[if_neg (by omega)]
 exact if_pos h
theorem shk_34{nm fl:ByteArray->Prop}(h:a.k=34):shk nm fl F a p A q K=(1<=q/\ex F K 0 q/\kdk F K 0≠27/\br a p false false false false):=by
 unfold shk
 iterate 30 rw[if_neg (by omega)]
 exact if_pos h
theorem shk_35{nm fl:ByteArray->Prop}(h:a.k=35):shk nm fl F a p A q K=((∀j,j<q->40<=kdk F K j/\kdk F K j<=42)/\br a p false false false false):=by
 unfold shk
 iterate 31 rw[if_neg (by omega)]
 exact if_pos h
theorem shk_36{nm fl:ByteArray->Prop}(h:a.k=36):shk nm fl F a p A q K=(q=1/\kdk F K 0=1/\br a p true false false true/\nd nm p A 0 200/\(a.o=0\/a.o=1)):=by
 unfold shk
 iterate 32 rw[if_neg (by omega)]
 exact if_pos h
theorem shk_37{nm fl:ByteArray->Prop}(h:a.k=37):shk nm fl F a p A q K=(q=1/\(kdk F K 0=34\/kdk F K 0=27)/\br a p false false false false):=by
 unfold shk
 iterate 33 rw[if_neg (by omega)]
 exact if_pos h
theorem shk_40{nm fl:ByteArray->Prop}(h:a.k=40):shk nm fl F a p A q K=(q=1/\ex F K 0 1/\br a p false false false false):=by
 unfold shk
 iterate 34 rw[if_neg (by omega)]
 exact if_pos h
theorem shk_41{nm fl:ByteArray->Prop}(h:a.k=41):shk nm fl F a p A q K=(q=2/\ex F K 0 2/\br a p false false false false):=by
 unfold shk
 iterate 35 rw[if_neg (by omega)]
 exact if_pos h
theorem shk_42{nm fl:ByteArray->Prop}(h:a.k=42):shk nm fl F a p A q K=(q=1/\ex F K 0 1/\br a p false false true false/\nm a.x):=by
 unfold shk
 iterate 36 rw[if_neg (by omega)]
 exact if_pos h
theorem sp_st{nm:ByteArray->Prop}(fl:ByteArray->Prop)(s:Sx nm w v n F vn vk p A q K)(a:Fv)(h:1<=a.k/\a.k<=16):
  Calls Tryz.prog 37 #[.agg #[v],fmv a vn vk] w λe w'=>e=.returned (.bool (dc (shk nm fl F a p A q K)))/\Below w.heap.size w w':=by
 have hc:a.k=1\/a.k=2\/a.k=3\/a.k=4\/a.k=5\/a.k=6\/a.k=7\/a.k=8\/a.k=9\/a.k=10\/a.k=11\/a.k=12\/a.k=13\/a.k=14\/a.k=15\/a.k=16:=by omega
 rcases hc with h|h|h|h|h|h|h|h|h|h|h|h|h|h|h|h
 ·rw[shk_1 h];exact st_1 s a h
 ·rw[shk_2 h];exact st_2 s a h
 ·rw[shk_3 h];exact st_3 s a h
 ·rw[shk_4 h];exact st_4 s a h
 ·rw[shk_5 h];exact st_5 s a h
 ·rw[shk_6 h];exact st_6 s a h
 ·rw[shk_7 h];exact st_7 s a h
 ·rw[shk_8 h];exact st_8 s a h
 ·rw[shk_9 h];exact st_9 s a h
 ·rw[shk_10 h];exact st_10 s a h
 ·rw[shk_11 h];exact st_11 s a h
 ·rw[shk_12 h];exact st_12 s a h
 ·rw[shk_13 h];exact st_13 s a h
 ·rw[shk_14 h];exact st_14 s a h
 ·rw[shk_15 h];exact st_15 s a h
 ·rw[shk_16 h];exact st_16 s a h
theorem xp_other{nm:ByteArray->Prop}(s:Sx nm w v n F vn vk p A q K)(a:Fv)(h:¬(20<=a.k/\a.k<=37))(h2:¬(40<=a.k/\a.k<=42)):
  Calls Tryz.prog 38 #[.agg #[v],fmv a vn vk] w λe w'=>e=.returned (.bool false)/\Below w.heap.size w w':=by
 obtain⟨pn,cn,rfl,_⟩:=s.rn;obtain⟨pk,ck,rfl,_⟩:=s.rk;obtain⟨pf,cf,rfl,_⟩:=s.rf;have hqI:(q:Int)<=1048576:=by have:=s.hq;omega
 clear s;obtain⟨k,f,t,l,o,m,x⟩:=a;dsimp only at h h2;have e20:(k==20)=false:=bne (by omega);have e21:(k==21)=false:=bne (by omega);have e22:(k==22)=false:=bne (by omega);have e23:(k==23)=false:=bne (by omega);have e24:(k==24)=false:=bne (by omega);have e25:(k==25)=false:=bne (by omega);have e26:(k==26)=false:=bne (by omega);have e27:(k==27)=false:=bne (by omega);have e28:(k==28)=false:=bne (by omega);have e29:(k==29)=false:=bne (by omega);have e30:(k==30)=false:=bne (by omega);have e31:(k==31)=false:=bne (by omega);have e32:(k==32)=false:=bne (by omega);have e33:(k==33)=false:=bne (by omega);have e34:(k==34)=false:=bne (by omega);have e35:(k==35)=false:=bne (by omega);have e36:(k==36)=false:=bne (by omega);have e37:(k==37)=false:=bne (by omega);have e40:(k==40)=false:=bne (by omega);have e41:(k==41)=false:=bne (by omega);have e42:(k==42)=false:=bne (by omega);clear h h2;unfold fmv;dsimp only;go_enter Tryz.func38,Tryz.ntmps38;go_wp2_with fail;go_ret;exact⟨rfl,bel2 _ _ _⟩
theorem sp_xp{nm fl:ByteArray->Prop}(HFL:FlS fl)(s:Sx nm w v n F vn vk p A q K)(a:Fv)(h:¬(1<=a.k/\a.k<=16)):
    Calls Tryz.prog 38 #[.agg #[v],fmv a vn vk] w λe w'=>e=.returned (.bool (dc (shk nm fl F a p A q K)))/\Below w.heap.size w w':=by
  by_cases h1:20<=a.k/\a.k<=37
  · have hc:a.k=20\/a.k=21\/a.k=22\/a.k=23\/a.k=24\/a.k=25\/a.k=26\/a.k=27\/a.k=28\/a.k=29\/a.k=30\/a.k=31\/a.k=32\/a.k=33\/a.k=34\/a.k=35\/a.k=36\/a.k=37:=by omega
    rcases hc with h|h|h|h|h|h|h|h|h|h|h|h|h|h|h|h|h|h
    · rw[shk_20 (by assumption)];exact xp_20 s a (by assumption)
    · rw[shk_21 (by assumption)];exact xp_21 s a (by assumption)
    · rw[shk_22 (by assumption)];exact xp_22 s a (by assumption)
    · rw[shk_23 (by assumption)];exact xp_23 s a (by assumption)
    · rw[shk_24 (by assumption)];exact xp_24 HFL s a (by assumption)
    · rw[shk_25 (by assumption)];exact xp_25 s a (by assumption)
    · rw[shk_26 (by assumption)];exact xp_26 s a (by assumption)
    · rw[shk_27 (by assumption)];exact xp_27 s a (by assumption)
    · rw[shk_28 (by assumption)];exact xp_28 s a (by assumption)
    · rw[shk_29 (by assumption)];exact xp_29 s a (by assumption)
    · rw[shk_30 (by assumption)];exact xp_30 s a (by assumption)
    · rw[shk_31 (by assumption)];exact xp_31 s a (by assumption)
    · rw[shk_32 (by assumption)];exact xp_32 s a (by assumption)
    · rw[shk_33 (by assumption)];exact xp_33 s a (by assumption)
    · rw[shk_34 (by assumption)];exact xp_34 s a (by assumption)
    · rw[shk_35 (by assumption)];exact xp_35 s a (by assumption)
    · rw[shk_36 (by assumption)];exact xp_36 s a (by assumption)
    · rw[shk_37 (by assumption)];exact xp_37 s a (by assumption)
  · by_cases h2:40<=a.k/\a.k<=42
    · have hc:a.k=40\/a.k=41\/a.k=42:=by omega
      rcases hc with h|h|h
      · rw[shk_40 (by assumption)];exact xp_40 s a (by assumption)
      · rw[shk_41 (by assumption)];exact xp_41 s a (by assumption)
      · rw[shk_42 (by assumption)];exact xp_42 s a (by assumption)
    · have hf : ¬ shk nm fl F a p A q K := by
        unfold shk;rw[if_neg (by omega)];rw[if_neg (by omega)];rw[if_neg (by omega)];rw[if_neg (by omega)];rw[if_neg (by omega)];rw[if_neg (by omega)];rw[if_neg (by omega)];rw[if_neg (by omega)];rw[if_neg (by omega)];rw[if_neg (by omega)];rw[if_neg (by omega)];rw[if_neg (by omega)];rw[if_neg (by omega)];rw[if_neg (by omega)];rw[if_neg (by omega)];rw[if_neg (by omega)];rw[if_neg (by omega)];rw[if_neg (by omega)];rw[if_neg (by omega)];rw[if_neg (by omega)];rw[if_neg (by omega)];rw[if_neg (by omega)];rw[if_neg (by omega)];rw[if_neg (by omega)];rw[if_neg (by omega)];rw[if_neg (by omega)];rw[if_neg (by omega)];rw[if_neg (by omega)];rw[if_neg (by omega)];rw[if_neg (by omega)];rw[if_neg (by omega)];rw[if_neg (by omega)];rw[if_neg (by omega)];rw[if_neg (by omega)];rw[if_neg (by omega)];rw[if_neg (by omega)];rw[if_neg (by omega)];exact λf=>f
      rw[dc_f hf];exact xp_other s a h1 h2
def ndk(nm fl:ByteArray->Prop)(F:Nat->Gv)(i:Nat):Prop:=
 0<=(F i).a.f/\(F i).a.f<=(F i).a.t/\0<=(F i).a.l/\(F i).q<=200/\(∀j,j<(F i).q->0<=(F i).K j/\(F i).K j<(i:Int))/\shk nm fl F (F i).a (F i).p (F i).A (F i).q (F i).K
theorem sp_node{nm fl:ByteArray->Prop}(HN:NmS nm)(HFL:FlS fl)(w:World)(hf:RowF w v n F)(i:Nat)(hi:i<n)(hn:n<=1048576)(hp:(F i).p<=1048576)(hq:(F i).q<=1048576):
  Calls Tryz.prog 20 #[.agg #[v],.int .i64 i] w λe w'=>e=.returned (.bool (dc (ndk nm fl F i)))/\Below w.heap.size w w':=by
 obtain⟨pf,cf,rfl,hf2⟩:=hf;have hf3:RowF w (.slice pf n cf) n F:=⟨pf,cf,rfl,hf2⟩
 obtain⟨c,rfl,hcc,hrc⟩:=hf2 (by omega);obtain⟨vn,vk,hc,hrn,hrk⟩:=hrc i hi;obtain⟨pn,cn,rfl,hn2⟩:=hrn;obtain⟨pk,ck,rfl,hk2⟩:=hrk;have hrn:RowV w (.slice pn (F i).p cn) (F i).p (λj=>.string ((F i).A j)):=⟨pn,cn,rfl,hn2⟩
 have hrk:RowV w (.slice pk (F i).q ck) (F i).q (λj=>.int .i64 ((F i).K j)):=⟨pk,ck,rfl,hk2⟩
 have hc':=λo:Obj=>hc.below (bel1 w o);obtain⟨W2,hW2⟩:∃W2,W2=(w.alloc (.cells #[.slice (some c) n cf] 29)).alloc (.cells #[.int .i64 (F i).a.k,.int .i64 (F i).a.f,.int .i64 (F i).a.t,.int .i64 (F i).a.l,.int .i64 (F i).a.o,.int .i64 (F i).a.m,.string (F i).a.x,.slice pn (F i).p cn,.slice pk (F i).q ck] 44):=⟨_,rfl⟩
 have hb2:Below w.heap.size w W2:=by rw[hW2];exact bel2 _ _ _
 have hbx:Bx W2 (w.heap.size+1) (F i).a (.slice pn (F i).p cn) (.slice pk (F i).q ck):=by
  rw[hW2];have:=Bx.new (w.alloc (.cells #[.slice (some c) n cf] 29)) (F i).a (.slice pn (F i).p cn) (.slice pk (F i).q ck) 44
  simpa using this
 have hct:W2.cell? ⟨w.heap.size,0,none⟩=some (.slice (some c) n cf):=by
  rw[hW2,World.cell?_alloc_past _ _ _ (by simp),World.cell?_alloc_at _ _ _ _ rfl];rfl
 have HSX:Hid ((∀j,j<(F i).q->0<=(F i).K j/\(F i).K j<(n:Int))->Sx nm W2 (.slice (some c) n cf) n F (.slice pn (F i).p cn) (.slice pk (F i).q ck) (F i).p (F i).A (F i).q (F i).K):=(λh=>⟨HN,hf3.below hb2,hrn.below hb2,hrk.below hb2,hp,hq,hn,h⟩:_->_)
 have HB2:Hid (Below w.heap.size w W2):=hb2
 have HKC:Hid (∀j,j<(F i).q->∃b:Addr,pk=some b/\(F i).q<=ck/\W2.cell? (b.add j)=some (.int .i64 ((F i).K j))):=(λj hj=>by
  obtain⟨b,rfl,h1,h2⟩:=hk2 (by omega)
  exact⟨b,rfl,h1,(hb2.cell (lt_of_cell' (h2 j hj))).trans (h2 j hj)⟩:∀j,_)
 have HFLS:Hid (FlS fl):=HFL;obtain⟨R,hR⟩:∃R,R=dc (ndk nm fl F i):=⟨_,rfl⟩
 have HR:Hid (R=dc (ndk nm fl F i)):=hR;rw[<-hR];have hiI:(i:Int)<(n:Int):=by omega
 have hnI:(n:Int)<=1048576:=by omega
 have hqI:((F i).q:Int)<=1048576:=by omega
 have HIN:Hid (i<n):=hi;obtain⟨d0,d1,d2,d3,d4,d5,d6,d7,d8⟩:=hc'  (.cells #[.slice (some c) n cf] 29);clear hR hb2 hc hc' hrc hf2 hf3 hrn hrk hn2 hk2 HN HFL hp hq hi hn;go_enter Tryz.func20,Tryz.ntmps20;have OUT:Hid (∀g:ndk nm fl F i->False,R=false):=(λg=>(uh HR).trans (dc_f g):∀g:ndk nm fl F i->False,R=false)
 rcases Int.lt_or_le (F i).a.f 0 with h1|h1
 ·have HX:Hid (R=false):=OUT (λg=>by have:=g.1;omega);clear hbx hct hW2;go_wp2_with fail;go_ret;exact⟨by rw[show R=false from HX];rfl,bel2 _ _ _⟩
 have h1':¬(F i).a.f<0:=by omega
 rcases Int.lt_or_le (F i).a.t (F i).a.f with h2|h2
 ·have HX:Hid (R=false):=OUT (λg=>by have:=g.2.1;omega);clear hbx hct hW2;go_wp2_with fail;go_ret;exact⟨by rw[show R=false from HX];rfl,bel2 _ _ _⟩
 have h2':¬(F i).a.t<(F i).a.f:=by omega
 rcases Int.lt_or_le (F i).a.l 0 with h3|h3
 ·have HX:Hid (R=false):=OUT (λg=>by have:=g.2.2.1;omega);clear hbx hct hW2;go_wp2_with fail;go_ret;exact⟨by rw[show R=false from HX];rfl,bel2 _ _ _⟩
 have h3':¬(F i).a.l<0:=by omega
 rcases Int.lt_or_le 200 ((F i).q:Int)with h4|h4
 ·have HX:Hid (R=false):=OUT (λg=>by have:=g.2.2.2.1;omega);clear hbx hct hW2;go_wp2_with fail;go_ret;exact⟨by rw[show R=false from HX];rfl,bel2 _ _ _⟩
 have h4':¬200<((F i).q:Int):=by omega
 have HH:Hid (0<=(F i).a.f/\(F i).a.f<=(F i).a.t/\0<=(F i).a.l/\(F i).q<=200):=(⟨h1,h2,h3,by omega⟩:_/\_/\_/\_)
 go_wp2_with fail;rw[<-hW2];clear hW2 d0 d1 d2 d3 d4 d5 d6 d7 d8;obtain⟨c0,c1,c2,c3,c4,c5,c6,c7,c8⟩:=hbx;clear h1 h1' h2 h2' h3 h3' h4 h4'
 go_loopw [37] (λsr wr=>∃j:Nat,sr=.int .i64 j/\j<=(F i).q/\wr=W2/\Hid (∀j',j'<j->0<=(F i).K j'/\(F i).K j'<(i:Int))) (λsr _=>(F i).q-(intOf sr).toNat)
 case atStart=>exact⟨0,rfl,Nat.zero_le _,rfl,(λj hj=>by omega:∀j',j'<0->_)⟩
 case round=>
  obtain⟨j,rfl,hj,rfl,HI⟩:=hrel;have hI:=(uh HI)
  rcases Nat.lt_or_ge j (F i).q with hj2|hj2
  ·have hjI:(j:Int)<((F i).q:Int):=by omega
   obtain⟨b,rfl,hcb,q0⟩:=(uh HKC) j hj2;rcases Int.lt_or_le ((F i).K j) 0 with g1|g1
   ·have HX:Hid (R=false):=OUT (λg=>by have:=(g.2.2.2.2.1 j hj2).1;omega);clear hI HI hj c0 c1 c2 c3 c4 c5 c6 c7 c8 hct;generalize (F i).K j=y at*;go_wp2_with fail;go_ret;exact⟨by rw[show R=false from HX];rfl,HB2⟩
   ·have g1':¬(F i).K j<0:=by omega
    rcases Int.lt_or_le ((F i).K j) (i:Int)with g2|g2
    ·have g2':¬(i:Int)<=(F i).K j:=by omega
     have HX:Hid (∀j',j'<j+1->0<=(F i).K j'/\(F i).K j'<(i:Int)):=(λj' hj'=>by
      by_cases e:j'=j
      ·rw[e];exact⟨g1,g2⟩
      ·exact hI j' (by omega):∀j',_)
     clear hI HI hj c0 c1 c2 c3 c4 c5 c6 c7 c8 hct;generalize (F i).K j=y at*;go_wp2_with fail;go_roundw
     case rel=>exact⟨j+1,by go_num,by omega,by trivial,HX⟩
     case measure=>simp[intOf];omega
    ·have HX:Hid (R=false):=OUT (λg=>by have:=(g.2.2.2.2.1 j hj2).2;omega);clear hI HI hj c0 c1 c2 c3 c4 c5 c6 c7 c8 hct;generalize (F i).K j=y at*;go_wp2_with fail;go_ret;exact⟨by rw[show R=false from HX];rfl,HB2⟩
  ·obtain rfl:j=(F i).q:=by omega
   have hsx:=(uh HSX) (λj hj=>by have:=hI j hj;omega)
   have hst:=λW=>sp_stat (F i).a.k W;have HIK:Hid (∀j',j'<(F i).q->0<=(F i).K j'/\(F i).K j'<(i:Int)):=hI;by_cases hk:1<=(F i).a.k/\(F i).a.k<=16
   ·rw[dc_t hk]at hst;have HST:Hid (∀W,Calls Tryz.prog 36 #[.int .i64 (F i).a.k] W λe w'=>e=.returned (.bool true)/\w'=W):=hst;have HC:Hid (Calls Tryz.prog 37 #[.agg #[.slice (some c) n cf],fmv (F i).a (.slice pn (F i).p cn) (.slice pk (F i).q ck)] wr λe w'=>e=.returned (.bool (dc (shk nm fl F (F i).a (F i).p (F i).A (F i).q (F i).K)))/\Below wr.heap.size wr w'):=sp_st fl hsx (F i).a hk;clear hI HI hsx hst hk;go_wp2_with fail;refine((uh HST) _).mono ?_;rintro e w1 ⟨rfl,rfl⟩;go_wp2_with fail;refine(uh HC).mono ?_;rintro e w2 ⟨rfl,b2⟩;have HX:Hid (R=dc (shk nm fl F (F i).a (F i).p (F i).A (F i).q (F i).K)):=(uh HR).trans (dc_iff ⟨λg=>g.2.2.2.2.2,λg=>⟨HH.1,HH.2.1,HH.2.2.1,HH.2.2.2,HIK,g⟩⟩);have HB3:Hid (Below w.heap.size w w2):=(uh HB2).trans (b2.mono (uh HB2).size);clear b2 HC HST;generalize dc (shk nm fl F (F i).a (F i).p (F i).A (F i).q (F i).K)=z at*;go_wp2_with fail;go_ret;exact⟨by rw[show R=z from HX];rfl,HB3⟩
   ·rw[dc_f hk]at hst;have HST:Hid (∀W,Calls Tryz.prog 36 #[.int .i64 (F i).a.k] W λe w'=>e=.returned (.bool false)/\w'=W):=hst;have HC:Hid (Calls Tryz.prog 38 #[.agg #[.slice (some c) n cf],fmv (F i).a (.slice pn (F i).p cn) (.slice pk (F i).q ck)] wr λe w'=>e=.returned (.bool (dc (shk nm fl F (F i).a (F i).p (F i).A (F i).q (F i).K)))/\Below wr.heap.size wr w'):=sp_xp HFLS hsx (F i).a hk;clear hI HI hsx hst hk;go_wp2_with fail;refine((uh HST) _).mono ?_;rintro e w1 ⟨rfl,rfl⟩;go_wp2_with fail;refine(uh HC).mono ?_;rintro e w2 ⟨rfl,b2⟩;have HX:Hid (R=dc (shk nm fl F (F i).a (F i).p (F i).A (F i).q (F i).K)):=(uh HR).trans (dc_iff ⟨λg=>g.2.2.2.2.2,λg=>⟨HH.1,HH.2.1,HH.2.2.1,HH.2.2.2,HIK,g⟩⟩);have HB3:Hid (Below w.heap.size w w2):=(uh HB2).trans (b2.mono (uh HB2).size);clear b2 HC HST;generalize dc (shk nm fl F (F i).a (F i).p (F i).A (F i).q (F i).K)=z at*;go_wp2_with fail;go_ret;exact⟨by rw[show R=z from HX];rfl,HB3⟩
def bk (sz:Nat->Int) (K:Nat->Int):Nat->Int->Option Int
 |0,at'=>some at'
 |j+1,at'=>if K j=at'-1/\sz (K j).toNat≠0 then bk sz K j (at'-sz (K j).toNat)else none
def szl (F:Nat->Gv):Nat->Nat->Int
 |0,_=>0
 |i+1,k=>if k=i then(match bk (szl F i) (F i).K (F i).q (i:Int)with|some at'=>(i:Int)-at'+1|none=>0)else szl F i k
theorem szl_stay(F:Nat->Gv){k:Nat}(h:k<i):∀n,i<=n->szl F n k=szl F i k:=by
 intro n
 induction n with
 |zero=>intro h2;omega
 |succ n ih=>
  intro h2;by_cases e:i=n+1
  ·rw[e]
  ·rw[<-ih (by omega)];show(if k=n then _ else szl F n k)=_;rw[if_neg (by omega)]
def Kn(F:Nat->Gv)(n:Nat):Prop:=∀i,i<n->∀j,j<(F i).q->0<=(F i).K j/\(F i).K j<(i:Int)
theorem bk_in{sz:Nat->Int}(hs:∀k,0<=sz k/\sz k<=(k:Int)+1):∀(q:Nat) (at' r:Int),(∀j,j<q->0<=K j/\K j<(i:Int))->0<=at'->at'<=(i:Int)->bk sz K q at'=some r->0<=r/\r<=(i:Int):=by
 intro q
 induction q with
 |zero=>intro at' r _ h0 h1 h;cases h;exact⟨h0,h1⟩
 |succ q ih=>
  intro at' r hk h0 h1 h;unfold bk at h;split at h
  ·rename_i hc
   have hkq:=hk q (by omega);have:=hs (K q).toNat;exact ih _ _ (λj hj=>hk j (by omega)) (by omega) (by omega) h
  ·cases h
theorem szl_in(h:Kn F n):∀i,i<=n->∀k,0<=szl F i k/\szl F i k<=(k:Int)+1:=by
 intro i
 induction i with
 |zero=>intro _ k;show 0<=(0:Int)/\(0:Int)<=_;omega
 |succ i ih=>
  intro hi k;show 0<=(if k=i then _ else szl F i k)/\(if k=i then _ else szl F i k)<=_;by_cases e:k=i
  ·rw[if_pos e];cases hb:bk (szl F i) (F i).K (F i).q (i:Int)with
   |none=>simp only;omega
   |some r=>
    have:=bk_in (ih (by omega)) (F i).q (i:Int) r (h i (by omega)) (by omega) (by omega) hb;simp only;omega
  ·rw[if_neg e];exact ih (by omega) k
theorem MkR.skip{w6:World}{A M:Nat->Value}(h:MkR w g n A M i W)(hi:i<n)(hb:Below W.heap.size W w6)(he:A i=M i):MkR w g n A M (i+1) w6:=by
 have hg:g<W.heap.size:=lt_of_cell (h.rest i (Nat.le_refl _) hi);have e6:∀j,w6.cell? ⟨g,j,none⟩=W.cell? ⟨g,j,none⟩:=λj=>World.cell?_of_block (hb.block g hg);refine⟨h.kq.trans (Kq.of_below hb (Nat.le_refl _)),λj hj=>?_,λj h1 h2=>?_,λj=>by rw[World.frozen?_of_block (hb.block g hg)];exact h.fz j⟩
 ·rw[e6];by_cases e:j=i
  ·rw[e,<-he];exact h.rest i (Nat.le_refl _) hi
  ·exact h.don j (by omega)
 ·rw[e6];exact h.rest j (by omega) h2
theorem sp_sizes(w:World)(hf:RowF w v n F)(hn:n<=1048576)(hK:Kn F n)(hq:∀i,i<n->(F i).q<=1048576):
  Calls Tryz.prog 21 #[.agg #[v]] w λe w'=>∃u g,e=.returned u/\OwnR w' u g n (λk=>.int .i64 (szl F n k))/\Below w.heap.size w w'/\w.heap.size<=g/\g<w'.heap.size:=by
 obtain⟨pf,cf,rfl,hf2⟩:=hf;have hnI:(n:Int)<=1048576:=by omega
 obtain⟨w0,hw0⟩:∃w0,w0=w.alloc (.cells #[.slice pf n cf] 29):=⟨_,rfl⟩
 have hmk:=run_make (P:=Tryz.prog) w0 42 3 Tryz.t3 (.int .i64 0) Tryz.underlying42 (by kernel_rfl) (by kernel_rfl) .i64 .i64 (n:Int) (n:Int) (by omega) (Int.le_refl _) (by show(8:Int)*(n:Int)<=_;omega) (by omega);rw[Int.toNat_natCast]at hmk;obtain⟨w1,hw1⟩:∃w1,w1=w0.alloc (.cells (madeCells (.int .i64 0:Value).cells (n*Tryz.t3.size)) 3):=⟨_,rfl⟩
 rw[<-hw1]at hmk;obtain⟨G,hG⟩:∃G,G=w0.heap.size:=⟨_,rfl⟩
 have hG':G=w.heap.size+1:=by rw[hG,hw0];simp
 have c1:∀j,j<n->w1.cell? ⟨G,j,none⟩=some (.int .i64 0):=by intro j hj;rw[hw1,hG];exact made_cell w0 _ 3 n rfl j hj
 have f1:∀j,w1.frozen? ⟨G,j,none⟩=false:=by intro j;rw[hw1,hG];exact made_fz _ _ _ _
 have b01:Below w0.heap.size w0 w1:=by rw[hw1];exact bel1 _ _
 have b1:Below w.heap.size w w1:=(by rw[hw0];exact bel1 _ _:Below w.heap.size w w0).trans (b01.mono (by rw[hw0];simp));have l1:G<w1.heap.size:=by rw[hw1,hG];simp
 have hct0:w1.cell? ⟨w.heap.size,0,none⟩=some (.slice pf n cf):=by
  rw[b01.cell (p:=⟨w.heap.size,0,none⟩) (by rw[hw0];show w.heap.size<_;simp),hw0,World.cell?_alloc_at _ _ _ _ rfl];rfl
 have HI0:Hid (MkR w1 G n (λ_=>.int .i64 0) (λk=>.int .i64 (szl F n k)) 0 w1):=(⟨Kq.refl _ _,λi hi=>by omega,λi _ hi=>c1 i hi,f1⟩:MkR w1 G n _ _ 0 w1)
 have HA:Hid ((0<n->∃a:Addr,pf=some a/\n<=cf/\∀i,i<n->FormC w (a.add (i*9)) (F i))/\Below w.heap.size w w1/\G=w.heap.size+1/\G<w1.heap.size/\Kn F n/\(∀i,i<n->(F i).q<=1048576)):=(⟨hf2,b1,hG',l1,hK,hq⟩:_/\_/\_/\_/\_/\_)
 rw[<-hG]at hmk;clear hf2 b1 c1 f1 hw1 hn l1 hG' hK hq b01 hG;go_enter Tryz.func21,Tryz.ntmps21;rw[hw0]at hmk;go_wp2_with fail;clear hmk hw0
 go_loopw [17] (λsr wr=>∃i:Nat,sr=.int .i64 i/\i<=n/\Hid (MkR w1 G n (λ_=>.int .i64 0) (λk=>.int .i64 (szl F n k)) i wr)) (λsr _=>n-(intOf sr).toNat)
 case atStart=>exact⟨0,rfl,Nat.zero_le _,HI0⟩
 case round=>
  clear HI0 hct0;obtain⟨i,rfl,hin,HI⟩:=hrel;have hI:=(uh HI)
  obtain⟨a1,a2,a3,a4,a5,a6⟩:=(uh HA)
  have hBW:Below w.heap.size w wr:=⟨hI.kq.os.trans a2.os,hI.kq.tape.trans a2.tape,hI.kq.output.trans a2.output,Nat.le_trans a2.size hI.kq.size,λb hb=>(hI.kq.block b (Nat.lt_of_lt_of_le hb a2.size) (by omega)).trans (a2.block b hb)⟩
  rcases Nat.lt_or_ge i n with hi|hi
  ·have hiI:(i:Int)<(n:Int):=by omega
   obtain⟨c,rfl,hcc,hrc⟩:=a1 (by omega);obtain⟨un,uk,hc,hrn,hrk⟩:=(hrc i hi).below hBW;obtain⟨pn,cn,rfl,_⟩:=hrn;obtain⟨pk,ck,rfl,hk2⟩:=hrk;obtain⟨d0,d1,d2,d3,d4,d5,d6,d7,d8⟩:=hc;obtain⟨A,hA⟩:∃A,A=wr.alloc (.cells #[.int .i64 (F i).a.k,.int .i64 (F i).a.f,.int .i64 (F i).a.t,.int .i64 (F i).a.l,.int .i64 (F i).a.o,.int .i64 (F i).a.m,.string (F i).a.x,.slice pn (F i).p cn,.slice pk (F i).q ck] 44):=⟨_,rfl⟩
   have bA:Below wr.heap.size wr A:=by rw[hA];exact bel1 _ _
   have hbx:Bx A wr.heap.size (F i).a (.slice pn (F i).p cn) (.slice pk (F i).q ck):=by rw[hA];exact Bx.new _ _ _ _ _
   have c8:=hbx.c8;have hqI:((F i).q:Int)<=1048576:=by have:=a6 i hi;omega
   have hsz:=szl_in a5 i (by omega);have HSZ:Hid ((∀k,0<=szl F i k/\szl F i k<=(k:Int)+1)/\∀j,j<(F i).q->0<=(F i).K j/\(F i).K j<(i:Int)):=(⟨hsz,a5 i hi⟩:_/\_)
   have HKC:Hid (∀j,j<(F i).q->∃b:Addr,pk=some b/\(F i).q<=ck/\A.cell? (b.add j)=some (.int .i64 ((F i).K j))):=(λj hj=>by
    obtain⟨b,rfl,h1,h2⟩:=hk2 (by omega)
    exact⟨b,rfl,h1,(bA.cell (lt_of_cell' (h2 j hj))).trans (h2 j hj)⟩:∀j,_)
   have hgW:G<wr.heap.size:=Nat.lt_of_lt_of_le a4 hI.kq.size
   have HGC:Hid (∀k,k<i->A.cell? ⟨G,k,none⟩=some (.int .i64 (szl F i k))):=(λk hk=>by
    rw[bA.cell (p:=⟨G,k,none⟩) hgW,hI.don k hk,szl_stay F hk n (by omega)]:∀k,_)
   have HM:Hid (szl F n i=(match bk (szl F i) (F i).K (F i).q (i:Int)with|some at'=>(i:Int)-at'+1|none=>0)):=by
    show szl F n i=_;rw[szl_stay F (Nat.lt_succ_self i) n hi];show(if i=i then _ else _)=_;rw[if_pos rfl]
   have HST:Hid (A.cell? ⟨G,i,none⟩=some (.int .i64 0)/\A.frozen? ⟨G,i,none⟩=false/\MkR w1 G n (λ_=>.int .i64 0) (λk=>.int .i64 (szl F n k)) (i+1) (A.setCell ⟨G,i,none⟩ (.int .i64 (szl F n i)))):=hI.step hi bA;have HSK:Hid (szl F n i=0->MkR w1 G n (λ_=>.int .i64 0) (λk=>.int .i64 (szl F n k)) (i+1) A):=(λe=>hI.skip hi bA (by rw[e]):_->_)
   clear hI HI HA a1 a2 a3 a4 a5 a6 hBW hrc hbx hsz hin hk2 hgW bA;go_wp2_with fail;rw[<-hA];clear hA d0 d1 d2 d3 d4 d5 d6 d7 d8
   go_loopw [6,7,8] (λs6 s7 s8 wv=>∃(jj:Nat) (at':Int),s6=.int .i64 at'/\s7=.bool true/\s8=.int .i64 ((jj:Int)-1)/\jj<=(F i).q/\0<=at'/\at'<=(i:Int)/\wv=A/\Hid (bk (szl F i) (F i).K (F i).q (i:Int)=bk (szl F i) (F i).K jj at')) (λ_ _ s8 _=>((intOf s8)+1).toNat)
   case atStart=>exact⟨(F i).q,(i:Int),rfl,rfl,rfl,Nat.le_refl _,by omega,by omega,rfl,(rfl:bk (szl F i) (F i).K (F i).q (i:Int)=_)⟩
   case round=>
    obtain⟨jj,at',rfl,rfl,rfl,hjj,hat0,hat1,rfl,HBK⟩:=hrel;cases jj with
    |zero=>
     have HV:Hid (szl F n i=(i:Int)-at'+1):=by
      show szl F n i=_;rw[show szl F n i=_ from HM,show bk (szl F i) (F i).K (F i).q (i:Int)=bk (szl F i) (F i).K 0 at' from HBK];rfl
     obtain⟨g1,g2,g3⟩:=(uh HST)
     rw[show szl F n i=_ from HV]at g3;have HG3:Hid (MkR w1 G n (λ_=>.int .i64 0) (λk=>.int .i64 (szl F n k)) (i+1) (wr.setCell ⟨G,i,none⟩ (.int .i64 ((i:Int)-at'+1)))):=g3;clear g3 HST HSK HBK HM HV HGC HKC HSZ hjj;rw[show(((0:Nat):Int)-1)=-1 from rfl];go_wp2_with fail;go_roundw
     case rel=>exact⟨i+1,by go_num,by omega,HG3⟩
     case measure=>simp[intOf];omega
    |succ k=>
     obtain⟨b,rfl,hcb,q0⟩:=(uh HKC) k (by omega);obtain⟨hsz,hkk⟩:=(uh HSZ)
     have hk1:=hkk k (by omega);obtain⟨m,hm⟩:∃m:Nat,(F i).K k=(m:Int):=⟨((F i).K k).toNat,by omega⟩
     have hms:=hsz m;have q1:=(uh HGC) m (by omega)
     have hbk1:bk (szl F i) (F i).K (k+1) at'=if(m:Int)=at'-1/\szl F i m≠0 then bk (szl F i) (F i).K k (at'-szl F i m)else none:=by
      show(if(F i).K k=at'-1/\szl F i ((F i).K k).toNat≠0 then bk (szl F i) (F i).K k (at'-szl F i ((F i).K k).toNat)else none)=_;rw[hm,Int.toNat_natCast]
     rw[hm]at q0;have hmI:(m:Int)<(i:Int):=by omega
     have hkI:(k:Int)<((F i).q:Int):=by omega
     rw[show(((k+1:Nat):Int)-1)=(k:Int)from by omega]
     have HN:Hid (bk (szl F i) (F i).K (k+1) at'=none->MkR w1 G n (λ_=>.int .i64 0) (λk=>.int .i64 (szl F n k)) (i+1) wr):=(λe=>(uh HSK) (by
      rw[show szl F n i=_ from HM,show bk (szl F i) (F i).K (F i).q (i:Int)=bk (szl F i) (F i).K (k+1) at' from HBK,e]):_->_)
     have HL:Hid (k+1<=(F i).q):=hjj;clear hkk hk1 hm hsz hjj HST HSK HM HGC HKC;by_cases e1:(m:Int)=at'-1
     ·have e1':((m:Int) !=at'-1)=false:=by rw[e1];simp
      by_cases e2:szl F i m=0
      ·have HD:Hid (MkR w1 G n (λ_=>.int .i64 0) (λk=>.int .i64 (szl F n k)) (i+1) wr):=HN (by rw[hbk1,if_neg (λg=>g.2 e2)]);have e2':(szl F i m==0)=true:=beq1 e2;clear HN hbk1 HBK e1 e2;generalize szl F i m=z at*;go_wp2_with fail;go_roundw
       case rel=>exact⟨i+1,by go_num,by omega,HD⟩
       case measure=>simp[intOf];omega
      ·have HD:Hid (bk (szl F i) (F i).K (F i).q (i:Int)=bk (szl F i) (F i).K k (at'-szl F i m)):=(uh HBK).trans (by rw[hbk1,if_pos ⟨e1,e2⟩]);have e2':(szl F i m==0)=false:=bne e2;have n0:0<=at'-szl F i m:=by omega
       have n1:at'-szl F i m<=(i:Int):=by omega
       clear HN hbk1 HBK e1 e2;generalize hz:szl F i m=z at*;clear hz;go_wp2_with fail;go_roundw
       case rel=>exact⟨k,at'-z,rfl,rfl,by first|rfl|go_num,by have:=(uh HL);omega,n0,n1,by trivial,HD⟩
       case measure=>simp[intOf]
     ·have HD:Hid (MkR w1 G n (λ_=>.int .i64 0) (λk=>.int .i64 (szl F n k)) (i+1) wr):=HN (by rw[hbk1,if_neg (λg=>e1 g.1)]);have e1':((m:Int) !=at'-1)=true:=bne_iff_ne.2 e1;clear HN hbk1 HBK e1;generalize szl F i m=z at*;go_wp2_with fail;go_roundw
      case rel=>exact⟨i+1,by go_num,by omega,HD⟩
      case measure=>simp[intOf];omega
  ·obtain rfl:i=n:=by omega
   have HE:Hid (MkR w1 G i (λ_=>.int .i64 0) (λk=>.int .i64 (szl F i k)) i wr/\Below w.heap.size w wr/\w.heap.size<=G/\G<wr.heap.size):=(⟨hI,hBW,by omega,Nat.lt_of_lt_of_le a4 hI.kq.size⟩:_/\_/\_/\_)
   clear HI hI HA a1 a2 a3 a4 a5 a6 hBW;go_wp2_with fail;go_ret;obtain⟨hE,hB,g1,g2⟩:=(uh HE)
   exact⟨_,G,rfl,⟨⟨_,_,rfl,λ_=>⟨rfl,Nat.le_refl _⟩⟩,λj hj=>hE.don j hj,λ_ j=>hE.fz j⟩,hB,g1,g2⟩
def upd (D:Nat->Int) (K:Nat->Int) (x:Int):Nat->Nat->Int
 |0,k=>D k
 |j+1,k=>if(k:Int)=K j then x else upd D K x j k
def dpr (F:Nat->Gv) (n:Nat):Nat->Nat->Int
 |0,_=>0
 |r+1,k=>upd (dpr F n r) (F (n-1-r)).K (dpr F n r (n-1-r)+1) (F (n-1-r)).q k
theorem upd_in{m:Int}(hD:∀k,0<=D k/\D k<=m)(hx:0<=x/\x<=m):∀j k,0<=upd D K x j k/\upd D K x j k<=m:=by
 intro j
 induction j with
 |zero=>exact hD
 |succ j ih=>
  intro k;show 0<=(if(k:Int)=K j then x else upd D K x j k)/\_;split
  ·rename_i h
   show _/\(if(k:Int)=K j then x else upd D K x j k)<=m;rw[if_pos h];exact hx
  ·rename_i h
   show _/\(if(k:Int)=K j then x else upd D K x j k)<=m;rw[if_neg h];exact ih k
theorem dpr_in(F:Nat->Gv)(n:Nat):∀r k,0<=dpr F n r k/\dpr F n r k<=(r:Int):=by
 intro r
 induction r with
 |zero=>intro k;show 0<=(0:Int)/\(0:Int)<=_;omega
 |succ r ih=>
  intro k;have h1:=ih (n-1-r);exact upd_in (m:=((r+1:Nat):Int)) (λk=>by have:=ih k;omega) (by omega) _ k
theorem upd_far:∀j,(∀j',j'<j->K j'<(i:Int))->upd D K x j i=D i:=by
 intro j
 induction j with
 |zero=>intro _;rfl
 |succ j ih=>
  intro h;show(if(i:Int)=K j then x else upd D K x j i)=D i;rw[if_neg (by have:=h j (by omega);omega)];exact ih (λj' hj'=>h j' (by omega))
inductive Fl (nm fl:ByteArray->Prop) (F:Nat->Gv) (n:Nat):Int->Int->Prop
 |none0:n=0\/3000<n\/(0<n/\(F (n-1)).a.k≠1)->Fl nm fl F n 1 0
 |shape (i:Nat):0<n->n<=3000->(F (n-1)).a.k=1->i<n->(∀j,j<i->ndk nm fl F j)->¬ndk nm fl F i->Fl nm fl F n 2 (i:Int)
 |order (i:Nat):0<n->n<=3000->(F (n-1)).a.k=1->(∀j,j<n->ndk nm fl F j)->i<n->(∀j,j<i->szl F n j≠0)->szl F n i=0->Fl nm fl F n 3 (i:Int)
 |whole:0<n->n<=3000->(F (n-1)).a.k=1->(∀j,j<n->ndk nm fl F j)->(∀j,j<n->szl F n j≠0)->szl F n (n-1)≠(n:Int)->Fl nm fl F n 3 ((n:Int)-1)
 |depth (i:Nat):0<n->n<=3000->(F (n-1)).a.k=1->(∀j,j<n->ndk nm fl F j)->(∀j,j<n->szl F n j≠0)->szl F n (n-1)=(n:Int)->i<n->(∀j,j<i->dpr F n n j<=100)->100<dpr F n n i->Fl nm fl F n 4 (i:Int)
 |sound:0<n->n<=3000->(F (n-1)).a.k=1->(∀j,j<n->ndk nm fl F j)->(∀j,j<n->szl F n j≠0)->szl F n (n-1)=(n:Int)->(∀j,j<n->dpr F n n j<=100)->Fl nm fl F n 0 0
structure Rs (W:World) (h:Nat) (v:Value):Prop where
 ct:W.cell? ⟨h,0,none⟩=some v
 r0:W.cell? ⟨h+1,0,none⟩=some (.int .i64 0)
 r1:W.cell? ⟨h+1,1,none⟩=some (.int .i64 0)
 z0:W.frozen? ⟨h+1,0,none⟩=false
 z1:W.frozen? ⟨h+1,1,none⟩=false
theorem Rs.below(s:Rs W h v)(hb:Below W.heap.size W W'):Rs W' h v:=by
 have l0:=lt_of_cell s.ct;have l1:=lt_of_cell s.r0;exact⟨(hb.cell (p:=⟨h,0,none⟩) l0).trans s.ct,(hb.cell (p:=⟨h+1,0,none⟩) l1).trans s.r0,(hb.cell (p:=⟨h+1,1,none⟩) l1).trans s.r1,(hb.frozen (p:=⟨h+1,0,none⟩) l1).trans s.z0,(hb.frozen (p:=⟨h+1,1,none⟩) l1).trans s.z1⟩
theorem Rs.kq(s:Rs W h v)(hb:Kq (λk=>k=g) W W')(hg:h+1<g):Rs W' h v:=by
 have l0:=lt_of_cell s.ct;have l1:=lt_of_cell s.r0;have b0:=hb.block h l0 (by omega);have b1:=hb.block (h+1) l1 (by omega);exact⟨(World.cell?_of_block b0).trans s.ct,(World.cell?_of_block b1).trans s.r0,(World.cell?_of_block b1).trans s.r1,(World.frozen?_of_block b1).trans s.z0,(World.frozen?_of_block b1).trans s.z1⟩
theorem Rs.new(w:World)(v:Value)(t1 t2:TypeId):Rs ((w.alloc (.cells #[v] t1)).alloc (.cells #[.int .i64 0,.int .i64 0] t2)) w.heap.size v:=by
 refine⟨?_,?_,?_,?_,?_⟩
 ·rw[World.cell?_alloc_past _ _ _ (by simp),World.cell?_alloc_at _ _ _ _ rfl];rfl
 ·rw[World.cell?_alloc_at _ _ _ _ (by simp)];rfl
 ·rw[World.cell?_alloc_at _ _ _ _ (by simp)];rfl
 ·rw[World.frozen?_alloc_at _ _ _ _ (by simp)]
 ·rw[World.frozen?_alloc_at _ _ _ _ (by simp)]
theorem Rs.ret(s:Rs W w.heap.size v)(hb:Below w.heap.size w W)(c f:Int):
  ((W.setCell ⟨w.heap.size+1,0,none⟩ (.int .i64 c)).setCell ⟨w.heap.size+1,1,none⟩ (.int .i64 f)).cell? ⟨w.heap.size+1,0,none⟩=some (.int .i64 c)/\((W.setCell ⟨w.heap.size+1,0,none⟩ (.int .i64 c)).setCell ⟨w.heap.size+1,1,none⟩ (.int .i64 f)).cell? ⟨w.heap.size+1,1,none⟩=some (.int .i64 f)/\Below w.heap.size w ((W.setCell ⟨w.heap.size+1,0,none⟩ (.int .i64 c)).setCell ⟨w.heap.size+1,1,none⟩ (.int .i64 f)):=by
 refine⟨?_,?_,(hb.setCell (by show w.heap.size<=w.heap.size+1;omega) _).setCell (by show w.heap.size<=w.heap.size+1;omega) _⟩
 ·rw[set_ne _ _ _ _ _ (by omega)];exact set_eq _ _ _ _ _ s.r0
 ·exact set_eq _ _ _ _ _ (by rw[set_ne _ _ _ _ _ (by omega)];exact s.r1)
structure Dv (w1:World) (g n:Nat) (D:Nat->Int) (W:World):Prop where
 kq:Kq (λk=>k=g) w1 W
 cell:∀k,k<n->W.cell? ⟨g,k,none⟩=some (.int .i64 (D k))
 fz:∀k,W.frozen? ⟨g,k,none⟩=false
theorem Dv.set{w1:World}(h:Dv w1 g n D W)(m:Nat)(hm:m<n)(x:Int)(D':Nat->Int)(hD:∀k,k<n->D' k=if k=m then x else D k):Dv w1 g n D' (W.setCell ⟨g,m,none⟩ (.int .i64 x)):=by
 refine⟨h.kq.setCell _ rfl _,λk hk=>?_,λk=>by rw[set_fz];exact h.fz k⟩;rw[hD k hk];by_cases e:k=m
 ·subst e;rw[if_pos rfl];exact set_eq _ _ _ _ _ (h.cell k hk)
 ·rw[if_neg e,set_ne _ _ _ _ _ e];exact h.cell k hk
