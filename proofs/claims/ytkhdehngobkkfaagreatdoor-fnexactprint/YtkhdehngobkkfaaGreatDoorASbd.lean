import Derived.Test.YtkhdehngobkkfaaGreatDoorARaf
import Derived.RangeFuncNested
import Derived.RangeFuncBound
import Derived.Shelf.RegionOpen
import Derived.OwnWalkIn
import Derived.LoopNIn
import Derived.LoopIn
set_option maxRecDepth 100000
set_option maxHeartbeats 2000000
namespace Go.Proofs.YtkhdehngobkkfaaGreatDoor
open Go.ChangeShapes Go.WideShapes Go.ChangeAt Go.RowKit
set_option linter.unusedVariables false
variable {B j:Nat}{T:ByteArray}{l:Int}{st:Bool}
theorem el_plain(L:List UInt8)(hT:T.data.toList=L)(hlen:T.size<=65536)(x:UInt8)(hx:L[j]? =some x)(h92:x≠92)(w:World)(h:Sb B T j l st w):
  Calls Tryz.prog 173 #[.pointer (some ⟨B,0,none⟩)] w λe w'=>e=.returned (.tuple #[.int .u8 x.toNat,.bool true])/\Mv B T ((j+1:Nat):Int) l st w w':=by
 have hs:T.size=L.length:=by rw[<-hT];simp
 have hj:j<L.length:=(List.getElem?_eq_some_iff.1 hx).1;have t0:∀w1,Sb B T (j:Nat) l st w1->Calls Tryz.prog 150 #[.pointer (some ⟨B,0,none⟩),.int .u8 92] w1 λe w'=>e=.returned (.bool false)/\Mv B T (j:Nat) l st w1 w':=λw1 h1=>take_mv (k:=j) 92 92 rfl false j hlen (by omega) (by rw[hT];exact .inr ⟨by rw[hx];intro g;exact h92 (Option.some.inj g),rfl,rfl⟩) w1 h1;have hix:=ix T L hT j x hx;obtain⟨M,hM,hLM⟩:∃M:Int,M<=65536/\(j:Int)<M:=⟨T.size,by omega,by omega⟩
 clear hT hlen hx h92 hs hj;generalize (x.toNat:Int)=xi at*;go_enter Tryz.func173,Tryz.ntmps173;go_wp2_with fail;refine(t0 _ h).mono ?_;rintro en w1 ⟨rfl,m1⟩;have n1:=m1;clear m1 t0;have b1:=n1.2.c1;have f1:=n1.2.fz 1;have mz:Mv B T ((j+1:Nat):Int) l st w (w1.setCell ⟨B,1,none⟩ (.int .i64 ((j:Int)+1))):=⟨n1.1.setCell 1 _,n1.2.set1 _⟩
 obtain⟨Z,hZ,HZ⟩:∃Z,Z=w1.setCell ⟨B,1,none⟩ (.int .i64 ((j:Int)+1))/\Hid (Mv B T ((j+1:Nat):Int) l st w Z):=⟨_,rfl,mz⟩
 have b0:Z.cell? ⟨B,0,none⟩=some (.string T):=HZ.2.c0;have d1:Z.cell? ⟨B,1,none⟩=some (.int .i64 ((j:Int)+1)):=by have:=HZ.2.c1;simpa using this
 clear n1 mz h;go_wp2_with fail;rw[<-hZ];clear hZ b1 f1
 go_quiet (fail)
 go_wp2_with fail;go_ret2;exact⟨rfl,HZ.1.drewN nq,HZ.2⟩
theorem el_n(L:List UInt8)(hT:T.data.toList=L)(hlen:T.size<=65536)(j1:Nat)(hj1:j1=j+1)(hx:L[j]? =some 92)(hc:L[j1]? =some 110)(w:World)(h:Sb B T j l st w):
  Calls Tryz.prog 173 #[.pointer (some ⟨B,0,none⟩)] w λe w'=>e=.returned (.tuple #[.int .u8 10,.bool true])/\Mv B T ((j1+1:Nat):Int) l st w w':=by
 have hs:T.size=L.length:=by rw[<-hT];simp
 have hj:j1<L.length:=(List.getElem?_eq_some_iff.1 hc).1;have t0:∀w1,Sb B T (j:Nat) l st w1->Calls Tryz.prog 150 #[.pointer (some ⟨B,0,none⟩),.int .u8 92] w1 λe w'=>e=.returned (.bool true)/\Mv B T (j1:Nat) l st w1 w':=λw1 h1=>take_mv (k:=j) 92 92 rfl true j1 hlen (by omega) (by rw[hT];exact .inl ⟨hx,rfl,hj1⟩) w1 h1;have t1:∀w1,Sb B T (j1:Nat) l st w1->Calls Tryz.prog 150 #[.pointer (some ⟨B,0,none⟩),.int .u8 110] w1 λe w'=>e=.returned (.bool true)/\Mv B T ((j1+1):Nat) l st w1 w':=λw1 h1=>take_mv (k:=j1) 110 110 rfl true (j1+1) hlen (by omega) (by rw[hT];exact .inl ⟨hc,rfl,rfl⟩) w1 h1;clear hT hlen hx hc hs hj hj1;go_enter Tryz.func173,Tryz.ntmps173;go_wp2_with fail;refine(t0 _ h).mono ?_;rintro en w1 ⟨rfl,m1⟩;have n1:=m1;clear m1 t0;go_wp2_with fail;refine(t1 _ n1.2).mono ?_;rintro en w2 ⟨rfl,m2⟩;have n2:=n1.trans m2;clear n1;clear m2 t1;have HZ:Hid (Mv B T ((j1+1:Nat):Int) l st w w2):=n2;clear n2 h;go_wp2_with fail;go_ret2;exact⟨rfl,HZ⟩
theorem el_t(L:List UInt8)(hT:T.data.toList=L)(hlen:T.size<=65536)(j1:Nat)(hj1:j1=j+1)(hx:L[j]? =some 92)(hc:L[j1]? =some 116)(w:World)(h:Sb B T j l st w):
  Calls Tryz.prog 173 #[.pointer (some ⟨B,0,none⟩)] w λe w'=>e=.returned (.tuple #[.int .u8 9,.bool true])/\Mv B T ((j1+1:Nat):Int) l st w w':=by
 have hs:T.size=L.length:=by rw[<-hT];simp
 have hj:j1<L.length:=(List.getElem?_eq_some_iff.1 hc).1;have t0:∀w1,Sb B T (j:Nat) l st w1->Calls Tryz.prog 150 #[.pointer (some ⟨B,0,none⟩),.int .u8 92] w1 λe w'=>e=.returned (.bool true)/\Mv B T (j1:Nat) l st w1 w':=λw1 h1=>take_mv (k:=j) 92 92 rfl true j1 hlen (by omega) (by rw[hT];exact .inl ⟨hx,rfl,hj1⟩) w1 h1;have t1:∀w1,Sb B T (j1:Nat) l st w1->Calls Tryz.prog 150 #[.pointer (some ⟨B,0,none⟩),.int .u8 110] w1 λe w'=>e=.returned (.bool false)/\Mv B T (j1:Nat) l st w1 w':=λw1 h1=>take_mv (k:=j1) 110 110 rfl false j1 hlen (by omega) (by rw[hT];exact .inr ⟨by rw[hc];decide,rfl,rfl⟩) w1 h1;have t2:∀w1,Sb B T (j1:Nat) l st w1->Calls Tryz.prog 150 #[.pointer (some ⟨B,0,none⟩),.int .u8 116] w1 λe w'=>e=.returned (.bool true)/\Mv B T ((j1+1):Nat) l st w1 w':=λw1 h1=>take_mv (k:=j1) 116 116 rfl true (j1+1) hlen (by omega) (by rw[hT];exact .inl ⟨hc,rfl,rfl⟩) w1 h1;clear hT hlen hx hc hs hj hj1;go_enter Tryz.func173,Tryz.ntmps173;go_wp2_with fail;refine(t0 _ h).mono ?_;rintro en w1 ⟨rfl,m1⟩;have n1:=m1;clear m1 t0;go_wp2_with fail;refine(t1 _ n1.2).mono ?_;rintro en w2 ⟨rfl,m2⟩;have n2:=n1.trans m2;clear n1;clear m2 t1;go_wp2_with fail;refine(t2 _ n2.2).mono ?_;rintro en w3 ⟨rfl,m3⟩;have n3:=n2.trans m3;clear n2;clear m3 t2;have HZ:Hid (Mv B T ((j1+1:Nat):Int) l st w w3):=n3;clear n3 h;go_wp2_with fail;go_ret2;exact⟨rfl,HZ⟩
theorem el_q(L:List UInt8)(hT:T.data.toList=L)(hlen:T.size<=65536)(j1:Nat)(hj1:j1=j+1)(hx:L[j]? =some 92)(hc:L[j1]? =some 34)(w:World)(h:Sb B T j l st w):
  Calls Tryz.prog 173 #[.pointer (some ⟨B,0,none⟩)] w λe w'=>e=.returned (.tuple #[.int .u8 34,.bool true])/\Mv B T ((j1+1:Nat):Int) l st w w':=by
 have hs:T.size=L.length:=by rw[<-hT];simp
 have hj:j1<L.length:=(List.getElem?_eq_some_iff.1 hc).1;have t0:∀w1,Sb B T (j:Nat) l st w1->Calls Tryz.prog 150 #[.pointer (some ⟨B,0,none⟩),.int .u8 92] w1 λe w'=>e=.returned (.bool true)/\Mv B T (j1:Nat) l st w1 w':=λw1 h1=>take_mv (k:=j) 92 92 rfl true j1 hlen (by omega) (by rw[hT];exact .inl ⟨hx,rfl,hj1⟩) w1 h1;have t1:∀w1,Sb B T (j1:Nat) l st w1->Calls Tryz.prog 150 #[.pointer (some ⟨B,0,none⟩),.int .u8 110] w1 λe w'=>e=.returned (.bool false)/\Mv B T (j1:Nat) l st w1 w':=λw1 h1=>take_mv (k:=j1) 110 110 rfl false j1 hlen (by omega) (by rw[hT];exact .inr ⟨by rw[hc];decide,rfl,rfl⟩) w1 h1;have t2:∀w1,Sb B T (j1:Nat) l st w1->Calls Tryz.prog 150 #[.pointer (some ⟨B,0,none⟩),.int .u8 116] w1 λe w'=>e=.returned (.bool false)/\Mv B T (j1:Nat) l st w1 w':=λw1 h1=>take_mv (k:=j1) 116 116 rfl false j1 hlen (by omega) (by rw[hT];exact .inr ⟨by rw[hc];decide,rfl,rfl⟩) w1 h1;have t3:∀w1,Sb B T (j1:Nat) l st w1->Calls Tryz.prog 150 #[.pointer (some ⟨B,0,none⟩),.int .u8 34] w1 λe w'=>e=.returned (.bool true)/\Mv B T ((j1+1):Nat) l st w1 w':=λw1 h1=>take_mv (k:=j1) 34 34 rfl true (j1+1) hlen (by omega) (by rw[hT];exact .inl ⟨hc,rfl,rfl⟩) w1 h1;clear hT hlen hx hc hs hj hj1;go_enter Tryz.func173,Tryz.ntmps173;go_wp2_with fail;refine(t0 _ h).mono ?_;rintro en w1 ⟨rfl,m1⟩;have n1:=m1;clear m1 t0;go_wp2_with fail;refine(t1 _ n1.2).mono ?_;rintro en w2 ⟨rfl,m2⟩;have n2:=n1.trans m2;clear n1;clear m2 t1;go_wp2_with fail;refine(t2 _ n2.2).mono ?_;rintro en w3 ⟨rfl,m3⟩;have n3:=n2.trans m3;clear n2;clear m3 t2;go_wp2_with fail;refine(t3 _ n3.2).mono ?_;rintro en w4 ⟨rfl,m4⟩;have n4:=n3.trans m4;clear n3;clear m4 t3;have HZ:Hid (Mv B T ((j1+1:Nat):Int) l st w w4):=n4;clear n4 h;go_wp2_with fail;go_ret2;exact⟨rfl,HZ⟩
theorem el_b(L:List UInt8)(hT:T.data.toList=L)(hlen:T.size<=65536)(j1:Nat)(hj1:j1=j+1)(hx:L[j]? =some 92)(hc:L[j1]? =some 92)(w:World)(h:Sb B T j l st w):
  Calls Tryz.prog 173 #[.pointer (some ⟨B,0,none⟩)] w λe w'=>e=.returned (.tuple #[.int .u8 92,.bool true])/\Mv B T ((j1+1:Nat):Int) l st w w':=by
 have hs:T.size=L.length:=by rw[<-hT];simp
 have hj:j1<L.length:=(List.getElem?_eq_some_iff.1 hc).1;have t0:∀w1,Sb B T (j:Nat) l st w1->Calls Tryz.prog 150 #[.pointer (some ⟨B,0,none⟩),.int .u8 92] w1 λe w'=>e=.returned (.bool true)/\Mv B T (j1:Nat) l st w1 w':=λw1 h1=>take_mv (k:=j) 92 92 rfl true j1 hlen (by omega) (by rw[hT];exact .inl ⟨hx,rfl,hj1⟩) w1 h1;have t1:∀w1,Sb B T (j1:Nat) l st w1->Calls Tryz.prog 150 #[.pointer (some ⟨B,0,none⟩),.int .u8 110] w1 λe w'=>e=.returned (.bool false)/\Mv B T (j1:Nat) l st w1 w':=λw1 h1=>take_mv (k:=j1) 110 110 rfl false j1 hlen (by omega) (by rw[hT];exact .inr ⟨by rw[hc];decide,rfl,rfl⟩) w1 h1;have t2:∀w1,Sb B T (j1:Nat) l st w1->Calls Tryz.prog 150 #[.pointer (some ⟨B,0,none⟩),.int .u8 116] w1 λe w'=>e=.returned (.bool false)/\Mv B T (j1:Nat) l st w1 w':=λw1 h1=>take_mv (k:=j1) 116 116 rfl false j1 hlen (by omega) (by rw[hT];exact .inr ⟨by rw[hc];decide,rfl,rfl⟩) w1 h1;have t3:∀w1,Sb B T (j1:Nat) l st w1->Calls Tryz.prog 150 #[.pointer (some ⟨B,0,none⟩),.int .u8 34] w1 λe w'=>e=.returned (.bool false)/\Mv B T (j1:Nat) l st w1 w':=λw1 h1=>take_mv (k:=j1) 34 34 rfl false j1 hlen (by omega) (by rw[hT];exact .inr ⟨by rw[hc];decide,rfl,rfl⟩) w1 h1;have t4:∀w1,Sb B T (j1:Nat) l st w1->Calls Tryz.prog 150 #[.pointer (some ⟨B,0,none⟩),.int .u8 92] w1 λe w'=>e=.returned (.bool true)/\Mv B T ((j1+1):Nat) l st w1 w':=λw1 h1=>take_mv (k:=j1) 92 92 rfl true (j1+1) hlen (by omega) (by rw[hT];exact .inl ⟨hc,rfl,rfl⟩) w1 h1;clear hT hlen hx hc hs hj hj1;go_enter Tryz.func173,Tryz.ntmps173;go_wp2_with fail;refine(t0 _ h).mono ?_;rintro en w1 ⟨rfl,m1⟩;have n1:=m1;clear m1 t0;go_wp2_with fail;refine(t1 _ n1.2).mono ?_;rintro en w2 ⟨rfl,m2⟩;have n2:=n1.trans m2;clear n1;clear m2 t1;go_wp2_with fail;refine(t2 _ n2.2).mono ?_;rintro en w3 ⟨rfl,m3⟩;have n3:=n2.trans m3;clear n2;clear m3 t2;go_wp2_with fail;refine(t3 _ n3.2).mono ?_;rintro en w4 ⟨rfl,m4⟩;have n4:=n3.trans m4;clear n3;clear m4 t3;go_wp2_with fail;refine(t4 _ n4.2).mono ?_;rintro en w5 ⟨rfl,m5⟩;have n5:=n4.trans m5;clear n4;clear m5 t4;have HZ:Hid (Mv B T ((j1+1:Nat):Int) l st w w5):=n5;clear n5 h;go_wp2_with fail;go_ret2;exact⟨rfl,HZ⟩
theorem el_xa(L:List UInt8)(hT:T.data.toList=L)(hlen:T.size<=65536)(j1 j2:Nat)(hj1:j1=j+1)(hj2:j2=j1+1)(hx:L[j]? =some 92)(hc:L[j1]? =some 120)(hno:NoHex L j2)(w:World)(h:Sb B T j l st w):
  Calls Tryz.prog 173 #[.pointer (some ⟨B,0,none⟩)] w λe w'=>e=.returned (.tuple #[.int .u8 0,.bool false])/\Mv B T ((j2:Nat):Int) l st w w':=by
 have hs:T.size=L.length:=by rw[<-hT];simp
 have hj:j1<L.length:=(List.getElem?_eq_some_iff.1 hc).1;have t0:∀w1,Sb B T (j:Nat) l st w1->Calls Tryz.prog 150 #[.pointer (some ⟨B,0,none⟩),.int .u8 92] w1 λe w'=>e=.returned (.bool true)/\Mv B T (j1:Nat) l st w1 w':=λw1 h1=>take_mv (k:=j) 92 92 rfl true j1 hlen (by omega) (by rw[hT];exact .inl ⟨hx,rfl,hj1⟩) w1 h1;have t1:∀w1,Sb B T (j1:Nat) l st w1->Calls Tryz.prog 150 #[.pointer (some ⟨B,0,none⟩),.int .u8 110] w1 λe w'=>e=.returned (.bool false)/\Mv B T (j1:Nat) l st w1 w':=λw1 h1=>take_mv (k:=j1) 110 110 rfl false j1 hlen (by omega) (by rw[hT];exact .inr ⟨by rw[hc];decide,rfl,rfl⟩) w1 h1;have t2:∀w1,Sb B T (j1:Nat) l st w1->Calls Tryz.prog 150 #[.pointer (some ⟨B,0,none⟩),.int .u8 116] w1 λe w'=>e=.returned (.bool false)/\Mv B T (j1:Nat) l st w1 w':=λw1 h1=>take_mv (k:=j1) 116 116 rfl false j1 hlen (by omega) (by rw[hT];exact .inr ⟨by rw[hc];decide,rfl,rfl⟩) w1 h1;have t3:∀w1,Sb B T (j1:Nat) l st w1->Calls Tryz.prog 150 #[.pointer (some ⟨B,0,none⟩),.int .u8 34] w1 λe w'=>e=.returned (.bool false)/\Mv B T (j1:Nat) l st w1 w':=λw1 h1=>take_mv (k:=j1) 34 34 rfl false j1 hlen (by omega) (by rw[hT];exact .inr ⟨by rw[hc];decide,rfl,rfl⟩) w1 h1;have t4:∀w1,Sb B T (j1:Nat) l st w1->Calls Tryz.prog 150 #[.pointer (some ⟨B,0,none⟩),.int .u8 92] w1 λe w'=>e=.returned (.bool false)/\Mv B T (j1:Nat) l st w1 w':=λw1 h1=>take_mv (k:=j1) 92 92 rfl false j1 hlen (by omega) (by rw[hT];exact .inr ⟨by rw[hc];decide,rfl,rfl⟩) w1 h1;have t5:∀w1,Sb B T (j1:Nat) l st w1->Calls Tryz.prog 150 #[.pointer (some ⟨B,0,none⟩),.int .u8 120] w1 λe w'=>e=.returned (.bool true)/\Mv B T (j2:Nat) l st w1 w':=λw1 h1=>take_mv (k:=j1) 120 120 rfl true j2 hlen (by omega) (by rw[hT];exact .inl ⟨hc,rfl,hj2⟩) w1 h1;have hb:=λw1 (h1:Sb B T (j2:Nat) l st w1)=>hexbyte_a L hT hlen (by omega) hno w1 h1;clear hT hlen hx hc hs hj hj1 hj2 hno;go_enter Tryz.func173,Tryz.ntmps173;go_wp2_with fail;refine(t0 _ h).mono ?_;rintro en w1 ⟨rfl,m1⟩;have n1:=m1;clear m1 t0;go_wp2_with fail;refine(t1 _ n1.2).mono ?_;rintro en w2 ⟨rfl,m2⟩;have n2:=n1.trans m2;clear n1;clear m2 t1;go_wp2_with fail;refine(t2 _ n2.2).mono ?_;rintro en w3 ⟨rfl,m3⟩;have n3:=n2.trans m3;clear n2;clear m3 t2;go_wp2_with fail;refine(t3 _ n3.2).mono ?_;rintro en w4 ⟨rfl,m4⟩;have n4:=n3.trans m4;clear n3;clear m4 t3;go_wp2_with fail;refine(t4 _ n4.2).mono ?_;rintro en w5 ⟨rfl,m5⟩;have n5:=n4.trans m5;clear n4;clear m5 t4;go_wp2_with fail;refine(t5 _ n5.2).mono ?_;rintro en w6 ⟨rfl,m6⟩;have n6:=n5.trans m6;clear n5;clear m6 t5;have hb1:=hb _ n6.2;have HZ:Hid (Mv B T (j2:Nat) l st w w6):=n6;clear n6 h hb;go_wp2_with fail;refine hb1.mono ?_;rintro en w9 ⟨rfl,m9⟩;have HY:Hid (Mv B T ((j2:Nat):Int) l st w w9):=(uh HZ).trans m9;clear hb1 m9 HZ;go_wp2_with fail;go_ret2;exact⟨rfl,HY⟩
theorem el_xb(L:List UInt8)(hT:T.data.toList=L)(hlen:T.size<=65536)(j1 j2:Nat)(hj1:j1=j+1)(hj2:j2=j1+1)(hx:L[j]? =some 92)(hc:L[j1]? =some 120)(x:UInt8)(hx2:L[j2]? =some x)(hxd:Rd.dw x<16)(j3:Nat)(hj3:j3=j2+1)(hno:NoHex L j3)(w:World)(h:Sb B T j l st w):
  Calls Tryz.prog 173 #[.pointer (some ⟨B,0,none⟩)] w λe w'=>e=.returned (.tuple #[.int .u8 0,.bool false])/\Mv B T ((j3:Nat):Int) l st w w':=by
 have hs:T.size=L.length:=by rw[<-hT];simp
 have hj:j1<L.length:=(List.getElem?_eq_some_iff.1 hc).1;have t0:∀w1,Sb B T (j:Nat) l st w1->Calls Tryz.prog 150 #[.pointer (some ⟨B,0,none⟩),.int .u8 92] w1 λe w'=>e=.returned (.bool true)/\Mv B T (j1:Nat) l st w1 w':=λw1 h1=>take_mv (k:=j) 92 92 rfl true j1 hlen (by omega) (by rw[hT];exact .inl ⟨hx,rfl,hj1⟩) w1 h1;have t1:∀w1,Sb B T (j1:Nat) l st w1->Calls Tryz.prog 150 #[.pointer (some ⟨B,0,none⟩),.int .u8 110] w1 λe w'=>e=.returned (.bool false)/\Mv B T (j1:Nat) l st w1 w':=λw1 h1=>take_mv (k:=j1) 110 110 rfl false j1 hlen (by omega) (by rw[hT];exact .inr ⟨by rw[hc];decide,rfl,rfl⟩) w1 h1;have t2:∀w1,Sb B T (j1:Nat) l st w1->Calls Tryz.prog 150 #[.pointer (some ⟨B,0,none⟩),.int .u8 116] w1 λe w'=>e=.returned (.bool false)/\Mv B T (j1:Nat) l st w1 w':=λw1 h1=>take_mv (k:=j1) 116 116 rfl false j1 hlen (by omega) (by rw[hT];exact .inr ⟨by rw[hc];decide,rfl,rfl⟩) w1 h1;have t3:∀w1,Sb B T (j1:Nat) l st w1->Calls Tryz.prog 150 #[.pointer (some ⟨B,0,none⟩),.int .u8 34] w1 λe w'=>e=.returned (.bool false)/\Mv B T (j1:Nat) l st w1 w':=λw1 h1=>take_mv (k:=j1) 34 34 rfl false j1 hlen (by omega) (by rw[hT];exact .inr ⟨by rw[hc];decide,rfl,rfl⟩) w1 h1;have t4:∀w1,Sb B T (j1:Nat) l st w1->Calls Tryz.prog 150 #[.pointer (some ⟨B,0,none⟩),.int .u8 92] w1 λe w'=>e=.returned (.bool false)/\Mv B T (j1:Nat) l st w1 w':=λw1 h1=>take_mv (k:=j1) 92 92 rfl false j1 hlen (by omega) (by rw[hT];exact .inr ⟨by rw[hc];decide,rfl,rfl⟩) w1 h1;have t5:∀w1,Sb B T (j1:Nat) l st w1->Calls Tryz.prog 150 #[.pointer (some ⟨B,0,none⟩),.int .u8 120] w1 λe w'=>e=.returned (.bool true)/\Mv B T (j2:Nat) l st w1 w':=λw1 h1=>take_mv (k:=j1) 120 120 rfl true j2 hlen (by omega) (by rw[hT];exact .inl ⟨hc,rfl,hj2⟩) w1 h1;have hb:=λw1 (h1:Sb B T (j2:Nat) l st w1)=>hexbyte_b L hT hlen (by omega) x hx2 hxd j3 hj3 hno w1 h1;clear hT hlen hx hc hs hj hj1 hj2 hx2 hxd hno hj3;go_enter Tryz.func173,Tryz.ntmps173;go_wp2_with fail;refine(t0 _ h).mono ?_;rintro en w1 ⟨rfl,m1⟩;have n1:=m1;clear m1 t0;go_wp2_with fail;refine(t1 _ n1.2).mono ?_;rintro en w2 ⟨rfl,m2⟩;have n2:=n1.trans m2;clear n1;clear m2 t1;go_wp2_with fail;refine(t2 _ n2.2).mono ?_;rintro en w3 ⟨rfl,m3⟩;have n3:=n2.trans m3;clear n2;clear m3 t2;go_wp2_with fail;refine(t3 _ n3.2).mono ?_;rintro en w4 ⟨rfl,m4⟩;have n4:=n3.trans m4;clear n3;clear m4 t3;go_wp2_with fail;refine(t4 _ n4.2).mono ?_;rintro en w5 ⟨rfl,m5⟩;have n5:=n4.trans m5;clear n4;clear m5 t4;go_wp2_with fail;refine(t5 _ n5.2).mono ?_;rintro en w6 ⟨rfl,m6⟩;have n6:=n5.trans m6;clear n5;clear m6 t5;have hb1:=hb _ n6.2;have HZ:Hid (Mv B T (j2:Nat) l st w w6):=n6;clear n6 h hb;go_wp2_with fail;refine hb1.mono ?_;rintro en w9 ⟨rfl,m9⟩;have HY:Hid (Mv B T ((j3:Nat):Int) l st w w9):=(uh HZ).trans m9;clear hb1 m9 HZ;go_wp2_with fail;go_ret2;exact⟨rfl,HY⟩
theorem el_xc(L:List UInt8)(hT:T.data.toList=L)(hlen:T.size<=65536)(j1 j2:Nat)(hj1:j1=j+1)(hj2:j2=j1+1)(hx:L[j]? =some 92)(hc:L[j1]? =some 120)(x y:UInt8)(hx2:L[j2]? =some x)(hxd:Rd.dw x<16)(j3:Nat)(hj3:j3=j2+1)(hy:L[j3]? =some y)(hyd:Rd.dw y<16)(w:World)(h:Sb B T j l st w):
  Calls Tryz.prog 173 #[.pointer (some ⟨B,0,none⟩)] w λe w'=>e=.returned (.tuple #[.int .u8 ((Rd.dw x:Int)*16+(Rd.dw y:Int)),.bool true])/\Mv B T (((j3+1):Nat):Int) l st w w':=by
 have hs:T.size=L.length:=by rw[<-hT];simp
 have hj:j1<L.length:=(List.getElem?_eq_some_iff.1 hc).1;have t0:∀w1,Sb B T (j:Nat) l st w1->Calls Tryz.prog 150 #[.pointer (some ⟨B,0,none⟩),.int .u8 92] w1 λe w'=>e=.returned (.bool true)/\Mv B T (j1:Nat) l st w1 w':=λw1 h1=>take_mv (k:=j) 92 92 rfl true j1 hlen (by omega) (by rw[hT];exact .inl ⟨hx,rfl,hj1⟩) w1 h1;have t1:∀w1,Sb B T (j1:Nat) l st w1->Calls Tryz.prog 150 #[.pointer (some ⟨B,0,none⟩),.int .u8 110] w1 λe w'=>e=.returned (.bool false)/\Mv B T (j1:Nat) l st w1 w':=λw1 h1=>take_mv (k:=j1) 110 110 rfl false j1 hlen (by omega) (by rw[hT];exact .inr ⟨by rw[hc];decide,rfl,rfl⟩) w1 h1;have t2:∀w1,Sb B T (j1:Nat) l st w1->Calls Tryz.prog 150 #[.pointer (some ⟨B,0,none⟩),.int .u8 116] w1 λe w'=>e=.returned (.bool false)/\Mv B T (j1:Nat) l st w1 w':=λw1 h1=>take_mv (k:=j1) 116 116 rfl false j1 hlen (by omega) (by rw[hT];exact .inr ⟨by rw[hc];decide,rfl,rfl⟩) w1 h1;have t3:∀w1,Sb B T (j1:Nat) l st w1->Calls Tryz.prog 150 #[.pointer (some ⟨B,0,none⟩),.int .u8 34] w1 λe w'=>e=.returned (.bool false)/\Mv B T (j1:Nat) l st w1 w':=λw1 h1=>take_mv (k:=j1) 34 34 rfl false j1 hlen (by omega) (by rw[hT];exact .inr ⟨by rw[hc];decide,rfl,rfl⟩) w1 h1;have t4:∀w1,Sb B T (j1:Nat) l st w1->Calls Tryz.prog 150 #[.pointer (some ⟨B,0,none⟩),.int .u8 92] w1 λe w'=>e=.returned (.bool false)/\Mv B T (j1:Nat) l st w1 w':=λw1 h1=>take_mv (k:=j1) 92 92 rfl false j1 hlen (by omega) (by rw[hT];exact .inr ⟨by rw[hc];decide,rfl,rfl⟩) w1 h1;have t5:∀w1,Sb B T (j1:Nat) l st w1->Calls Tryz.prog 150 #[.pointer (some ⟨B,0,none⟩),.int .u8 120] w1 λe w'=>e=.returned (.bool true)/\Mv B T (j2:Nat) l st w1 w':=λw1 h1=>take_mv (k:=j1) 120 120 rfl true j2 hlen (by omega) (by rw[hT];exact .inl ⟨hc,rfl,hj2⟩) w1 h1;have hb:=λw1 (h1:Sb B T (j2:Nat) l st w1)=>hexbyte_c L hT hlen (by omega) x y hx2 hxd j3 hj3 hy hyd w1 h1;clear hT hlen hx hc hs hj hj1 hj2 hx2 hxd hy hyd hj3;generalize (Rd.dw x:Int)*16+(Rd.dw y:Int)=val at*;go_enter Tryz.func173,Tryz.ntmps173;go_wp2_with fail;refine(t0 _ h).mono ?_;rintro en w1 ⟨rfl,m1⟩;have n1:=m1;clear m1 t0;go_wp2_with fail;refine(t1 _ n1.2).mono ?_;rintro en w2 ⟨rfl,m2⟩;have n2:=n1.trans m2;clear n1;clear m2 t1;go_wp2_with fail;refine(t2 _ n2.2).mono ?_;rintro en w3 ⟨rfl,m3⟩;have n3:=n2.trans m3;clear n2;clear m3 t2;go_wp2_with fail;refine(t3 _ n3.2).mono ?_;rintro en w4 ⟨rfl,m4⟩;have n4:=n3.trans m4;clear n3;clear m4 t3;go_wp2_with fail;refine(t4 _ n4.2).mono ?_;rintro en w5 ⟨rfl,m5⟩;have n5:=n4.trans m5;clear n4;clear m5 t4;go_wp2_with fail;refine(t5 _ n5.2).mono ?_;rintro en w6 ⟨rfl,m6⟩;have n6:=n5.trans m6;clear n5;clear m6 t5;have hb1:=hb _ n6.2;have HZ:Hid (Mv B T (j2:Nat) l st w w6):=n6;clear n6 h hb;go_wp2_with fail;refine hb1.mono ?_;rintro en w9 ⟨rfl,m9⟩;have HY:Hid (Mv B T (((j3+1):Nat):Int) l st w w9):=(uh HZ).trans m9;clear hb1 m9 HZ;go_wp2_with fail;go_ret2;exact⟨rfl,HY⟩
theorem el_none(L:List UInt8)(hT:T.data.toList=L)(hlen:T.size<=65536)(j1:Nat)(hj1:j1=j+1)(hx:L[j]? =some 92)(hc:L[j1]? ≠some 110/\L[j1]? ≠some 116/\L[j1]? ≠some 34/\L[j1]? ≠some 92/\L[j1]? ≠some 120)(w:World)(h:Sb B T j l st w):
  Calls Tryz.prog 173 #[.pointer (some ⟨B,0,none⟩)] w λe w'=>e=.returned (.tuple #[.int .u8 0,.bool false])/\Mv B T (j1:Int) l st w w':=by
 have hs:T.size=L.length:=by rw[<-hT];simp
 have hj:j<L.length:=(List.getElem?_eq_some_iff.1 hx).1;obtain⟨c1,c2,c3,c4,c5⟩:=hc;have t0:∀w1,Sb B T (j:Nat) l st w1->Calls Tryz.prog 150 #[.pointer (some ⟨B,0,none⟩),.int .u8 92] w1 λe w'=>e=.returned (.bool true)/\Mv B T (j1:Nat) l st w1 w':=λw1 h1=>take_mv (k:=j) 92 92 rfl true j1 hlen (by omega) (by rw[hT];exact .inl ⟨hx,rfl,hj1⟩) w1 h1;have t1:∀w1,Sb B T (j1:Nat) l st w1->Calls Tryz.prog 150 #[.pointer (some ⟨B,0,none⟩),.int .u8 110] w1 λe w'=>e=.returned (.bool false)/\Mv B T (j1:Nat) l st w1 w':=λw1 h1=>take_mv (k:=j1) 110 110 rfl false j1 hlen (by omega) (by rw[hT];exact .inr ⟨c1,rfl,rfl⟩) w1 h1;have t2:∀w1,Sb B T (j1:Nat) l st w1->Calls Tryz.prog 150 #[.pointer (some ⟨B,0,none⟩),.int .u8 116] w1 λe w'=>e=.returned (.bool false)/\Mv B T (j1:Nat) l st w1 w':=λw1 h1=>take_mv (k:=j1) 116 116 rfl false j1 hlen (by omega) (by rw[hT];exact .inr ⟨c2,rfl,rfl⟩) w1 h1;have t3:∀w1,Sb B T (j1:Nat) l st w1->Calls Tryz.prog 150 #[.pointer (some ⟨B,0,none⟩),.int .u8 34] w1 λe w'=>e=.returned (.bool false)/\Mv B T (j1:Nat) l st w1 w':=λw1 h1=>take_mv (k:=j1) 34 34 rfl false j1 hlen (by omega) (by rw[hT];exact .inr ⟨c3,rfl,rfl⟩) w1 h1;have t4:∀w1,Sb B T (j1:Nat) l st w1->Calls Tryz.prog 150 #[.pointer (some ⟨B,0,none⟩),.int .u8 92] w1 λe w'=>e=.returned (.bool false)/\Mv B T (j1:Nat) l st w1 w':=λw1 h1=>take_mv (k:=j1) 92 92 rfl false j1 hlen (by omega) (by rw[hT];exact .inr ⟨c4,rfl,rfl⟩) w1 h1;have t5:∀w1,Sb B T (j1:Nat) l st w1->Calls Tryz.prog 150 #[.pointer (some ⟨B,0,none⟩),.int .u8 120] w1 λe w'=>e=.returned (.bool false)/\Mv B T (j1:Nat) l st w1 w':=λw1 h1=>take_mv (k:=j1) 120 120 rfl false j1 hlen (by omega) (by rw[hT];exact .inr ⟨c5,rfl,rfl⟩) w1 h1;clear hT hlen hx c1 c2 c3 c4 c5 hs hj hj1;go_enter Tryz.func173,Tryz.ntmps173;go_wp2_with fail;refine(t0 _ h).mono ?_;rintro en w1 ⟨rfl,m1⟩;have n1:=m1;clear m1 t0;go_wp2_with fail;refine(t1 _ n1.2).mono ?_;rintro en w2 ⟨rfl,m2⟩;have n2:=n1.trans m2;clear n1;clear m2 t1;go_wp2_with fail;refine(t2 _ n2.2).mono ?_;rintro en w3 ⟨rfl,m3⟩;have n3:=n2.trans m3;clear n2;clear m3 t2;go_wp2_with fail;refine(t3 _ n3.2).mono ?_;rintro en w4 ⟨rfl,m4⟩;have n4:=n3.trans m4;clear n3;clear m4 t3;go_wp2_with fail;refine(t4 _ n4.2).mono ?_;rintro en w5 ⟨rfl,m5⟩;have n5:=n4.trans m5;clear n4;clear m5 t4;go_wp2_with fail;refine(t5 _ n5.2).mono ?_;rintro en w6 ⟨rfl,m6⟩;have n6:=n5.trans m6;clear n5;clear m6 t5;have HZ:Hid (Mv B T (j1:Int) l st w w6):=n6;clear n6 h;go_wp2_with fail;go_ret2;exact⟨rfl,HZ⟩
theorem impl_elt(L:List UInt8)(hT:T.data.toList=L)(hlen:T.size<=65536){ok:Bool}{v:Int}{e:Nat}(he:Elt L j ok v e)(w:World)(h:Sb B T j l st w):
  Calls Tryz.prog 173 #[.pointer (some ⟨B,0,none⟩)] w λen w'=>en=.returned (.tuple #[.int .u8 v,.bool ok])/\Mv B T (e:Int) l st w w':=by
 cases he with
 |plain x hx h92=>exact el_plain L hT hlen x hx h92 w h
 |simple c v hx hc hv=>
  rcases hv with⟨rfl,rfl⟩|⟨rfl,rfl⟩|⟨rfl,rfl⟩|⟨rfl,rfl⟩
  ·exact el_n L hT hlen (j+1) rfl hx hc w h
  ·exact el_t L hT hlen (j+1) rfl hx hc w h
  ·exact el_q L hT hlen (j+1) rfl hx hc w h
  ·exact el_b L hT hlen (j+1) rfl hx hc w h
 |hex x y hx hc h2 hxd hy hyd=>exact el_xc L hT hlen (j+1) (j+2) rfl rfl hx hc x y h2 hxd (j+3) rfl hy hyd w h
 |hexA hx hc hno=>exact el_xa L hT hlen (j+1) (j+2) rfl rfl hx hc hno w h
 |hexB x hx hc h2 hxd hno=>exact el_xb L hT hlen (j+1) (j+2) rfl rfl hx hc x h2 hxd (j+3) rfl hno w h
 |none hx hc=>exact el_none L hT hlen (j+1) rfl hx hc w h
end Go.Proofs.YtkhdehngobkkfaaGreatDoor
namespace Go.Proofs.YtkhdehngobkkfaaGreatDoor
open Go.ChangeShapes Go.WideShapes Go.ChangeAt Go.RowKit Go.Shelf
set_option linter.unusedVariables false
variable {l:Int}{st:Bool}{w:World}{α:Type}
attribute [local go_sem] Oper.semAt_some
structure Tk where
 kind:Int
 to:Nat
 num:Int
 text:ByteArray
inductive Run (L:List UInt8) (tk:Nat->Tk):Nat->Int->List (Nat×Int)->Nat->Bool->Prop
 |fin (p:Nat) (l:Int) (h:p=L.length):Run L tk p l [] p false
 |bad (p:Nat) (l:Int) (h:p<L.length) (hk:(tk p).kind=0):Run L tk p l [] (tk p).to true
 |step (p:Nat) (l:Int) (ts:List (Nat×Int)) (e:Nat) (st:Bool) (h:p<L.length) (hk:(tk p).kind≠0) (hr:Run L tk (bl L (tk p).to) (if(tk p).kind=7 then l+1 else l) ts e st):Run L tk p l ((p,l)::ts) e st
theorem Run.inv{L:List UInt8}{tk:Nat->Tk}{p:Nat}{xs:List (Nat×Int)}{e:Nat}(h:Run L tk p l xs e st):
  (xs=[]/\p=L.length/\e=p/\st=false)\/(xs=[]/\p<L.length/\(tk p).kind=0/\e=(tk p).to/\st=true)\/
  (∃ts,xs=(p,l)::ts/\p<L.length/\(tk p).kind≠0/\Run L tk (bl L (tk p).to) (if(tk p).kind=7 then l+1 else l) ts e st):=by
 cases h with
 |fin _ _ h=>exact .inl ⟨rfl,h,rfl,rfl⟩
 |bad _ _ h hk=>exact .inr (.inl ⟨rfl,h,hk,rfl,rfl⟩)
 |step _ _ ts _ _ h hk hr=>exact .inr (.inr ⟨ts,rfl,h,hk,hr⟩)
structure TkOk (L:List UInt8) (tk:Nat->Tk):Prop where
 lt:∀p,p<L.length->(tk p).kind≠0->p<(tk p).to
 le:∀p,p<L.length->(tk p).to<=L.length
theorem run_any {L:List UInt8} {tk:Nat->Tk} (ok:TkOk L tk):∀(n p:Nat) (l:Int),p<=L.length->L.length-p<=n->∃ts e st,Run L tk p l ts e st
 |n,p,l,hp,hn=>by
  by_cases he:p=L.length
  ·exact⟨[],p,false,.fin p l he⟩
  ·by_cases hk:(tk p).kind=0
   ·exact⟨[],_,true,.bad p l (by omega) hk⟩
   ·have h1:=ok.lt p (by omega) hk;have h2:=ok.le p (by omega);have h3:=bl_le L _ h2;have h4:=bl_ge L (tk p).to;cases n with
    |zero=>omega
    |succ n=>
     obtain⟨ts,e,st,hr⟩:=run_any ok n (bl L (tk p).to) (if(tk p).kind=7 then l+1 else l) h3 (by omega);exact⟨_,e,st,.step p l ts e st (by omega) hk hr⟩
def tkV(tk:Nat->Tk)(x:Nat×Int):Value:=tokV (tk x.1).kind x.1 (tk x.1).to x.2 (tk x.1).num (tk x.1).text
def TokC(B:Nat)(T:ByteArray)(L:List UInt8)(tk:Nat->Tk):Prop:=∀(p:Nat) (l:Int) (w:World),p<L.length->0<=l->l<=(p:Int)+1->Gd w->Sb B T p l false w->
 Calls Tryz.prog 145 #[.pointer (some ⟨B,0,none⟩)] w λe w'=>e=.returned (tkV tk (p,l))/\Mv B T (tk p).to (if(tk p).kind=7 then l+1 else l) false w w'
theorem Sb.box{B:Nat}{T:ByteArray}{k:Int}(h:Sb B T k l st w):∃o:Obj,w.heap[B]? =some o:=⟨_,h⟩
theorem iter_in(n:Nat)(hn:1<=n)(lp Bb B:Nat)(T:ByteArray)(L:List UInt8)(hT:T.data.toList=L)(hlen:T.size<=65536)(tk:Nat->Tk)(ok:TkOk L tk)(htok:TokC B T L tk)(hB9:12<=B)
  (xs:List (Nat×Int)) (J:List (Nat×Int)->World->Prop)
  (hJ:∀pre W W',J pre W->Kb B W W'->J pre W') (hJb:∀pre W,J pre W->W.cell? ⟨Bb,0,none⟩=some (.pointer (some ⟨B,0,none⟩))/\Gd W)
  (hY:∀pre x W,J pre W->pre.length<xs.length->YieldAt Fence.wide (n-1) Tryz.prog lp #[tkV tk x] W λe W'=>e=.returned (.bool true)/\J (pre++[x]) W'/\W'.heap[B]? =W.heap[B]?)
  (e:Nat) (st:Bool) (hrun:Run L tk (bl L 0) 1 xs e st) (W:World) (hS:Sb B T 0 1 false W) (h0:J [] W):
  CallsIn Fence.wide n Tryz.prog 142 #[.func (.yield lp) #[] #[],.pointer (some ⟨Bb,0,none⟩)] W λen W'=>(∃v,en=.returned v)/\J xs W'/\∃l,Sb B T e l st W':=by
 have hsz:T.size=L.length:=by rw[<-hT];simp
 have HBL:Hid (∀(k:Nat) (l:Int) (w:World),k<=T.size->Sb B T k l false w->Calls Tryz.prog 143 #[.pointer (some ⟨B,0,none⟩)] w λe w'=>e=.returned (.tuple #[])/\Mv B T (bl L k:Nat) l false w w'):=(λk l w hk h=>impl_blanks L hT hlen hk w h:∀(k:Nat) (l:Int) (w:World),k<=T.size->Sb B T k l false w->Calls Tryz.prog 143 #[.pointer (some ⟨B,0,none⟩)] w λe w'=>e=.returned (.tuple #[])/\Mv B T (bl L k:Nat) l false w w')
 have cb:=(hJb [] W h0).1;have hb0:=(uh HBL) 0 1 W zq hS;refine callsIn_of_wp Tryz.func142 rfl trivial ?_ rfl;simp only[Tryz.ntmps142,List.size_toArray,List.length_cons,List.length_nil,Nat.reduceAdd,Nat.reduceSub,Array.replicate_succ,Array.replicate_zero,List.push_toArray,List.append_toArray,List.nil_append,List.cons_append]
 gi_wp2_with fail
 refine⟨trivial,(callsIn_wide.2 hb0).mono ?_⟩;rintro en w1 ⟨rfl,m1⟩;have hbl0:=bl_le L 0 zq;have HS1:Hid (Sb B T (bl L 0:Nat) 1 false w1/\J [] w1):=(⟨m1.2,hJ [] W w1 h0 m1.1⟩:_/\_)
 have HRUN:Hid (Run L tk (bl L 0) 1 xs e st):=hrun;have HJ:Hid (∀pre W W',J pre W->Kb B W W'->J pre W'):=hJ;have HJB:Hid (∀pre W,J pre W->W.cell? ⟨Bb,0,none⟩=some (.pointer (some ⟨B,0,none⟩))/\Gd W):=hJb;have HY:Hid (∀pre x W,J pre W->pre.length<xs.length->YieldAt Fence.wide (n-1) Tryz.prog lp #[tkV tk x] W λe W'=>e=.returned (.bool true)/\J (pre++[x]) W'/\W'.heap[B]? =W.heap[B]?):=hY;have HTK:Hid (TokC B T L tk):=htok;have HOK:Hid (TkOk L tk):=ok;have HB9:Hid (12<=B):=hB9;have HTT:Hid (T.data.toList=L):=hT;have HLN:Hid (T.size<=65536):=hlen;clear hB9 hb0 m1 cb hrun hJ hJb hY htok ok hT hlen hS h0
 gi_wp2_with fail
 gi_loopw [] (λwr=>∃(p:Nat) (l:Int) (pre rest:List (Nat×Int)),p<=L.length/\Hid (xs=pre++rest/\Run L tk p l rest e st/\0<=l/\l<=(p:Int)+1/\Sb B T p l false wr/\J pre wr)) (λwr=>L.length-atOf B wr)
 case atStart=>exact⟨bl L 0,1,[],xs,hbl0,(⟨rfl,HRUN,by omega,by omega,HS1.1,HS1.2⟩:_/\_/\_/\_/\_/\_)⟩
 case round=>
  clear HS1 HRUN;obtain⟨p,l,pre,rest,hp,HR⟩:=hrel;obtain⟨hx,hrun,hl0,hl1,hS,hJp⟩:=(uh HR)
  clear HR;obtain⟨cb,hG⟩:=(uh HJB) pre wr hJp;have hat:=atOf_sb hS;rcases hrun.inv with⟨r1,r2,r3,r4⟩|⟨r1,r2,r3,r4,r5⟩|⟨ts,r1,r2,r3,r4⟩
  ·have he:=ended_mv true (by simp;omega) wr hS;have HF:Hid (∀w1,Mv B T p l false wr w1->J xs w1/\∃l,Sb B T e l st w1):=(λw1 m1=>⟨by rw[hx,r1,List.append_nil];exact(uh HJ) pre wr w1 hJp m1.1,l,by rw[r3,r4];exact m1.2⟩:∀w1,Mv B T p l false wr w1->J xs w1/\∃l,Sb B T e l st w1)
   clear HJ HJB HY HTK HOK HTT HLN HBL hx hS hJp hG hat hl0 hl1 hrun r1 r2 r3 r4
   gi_wp2_with fail
   refine⟨trivial,(callsIn_wide.2 he).mono ?_⟩;rintro en w1 ⟨rfl,m1⟩;have hF:=(uh HF) w1 m1;clear he HF m1
   gi_wp2_with fail
   go_end0
   exact⟨⟨_,rfl⟩,hF⟩
  ·have he:=ended_mv false (by simp;omega) wr hS;have ht:=λw1 (m1:Mv B T p l false wr w1)=>(uh HTK) p l w1 r2 hl0 hl1 (hG.kb (uh HB9) m1.1) m1.2;have hcb:=λw1 (m1:Kb B wr w1)=>((uh HJB) pre w1 ((uh HJ) pre wr w1 hJp m1)).1;have hk0:((tk p).kind==0)=true:=by simpa using r3
   have n7:¬(tk p).kind=7:=by rw[r3];decide
   have HF:Hid (∀w1,Kb B wr w1->J xs w1):=(λw1 m1=>by rw[hx,r1,List.append_nil];exact(uh HJ) pre wr w1 hJp m1:∀w1,Kb B wr w1->J xs w1)
   have HE:Hid (e=(tk p).to/\st=true):=(⟨r4,r5⟩:_/\_)
   clear HJ HJB HY HTK HOK HTT HLN HBL hx hS hJp hG hat hl0 hl1 hrun r1 r2 r3 r4 r5
   gi_wp2_with fail
   refine⟨trivial,(callsIn_wide.2 he).mono ?_⟩;rintro en w1 ⟨rfl,m1⟩;have ht1:=ht w1 m1;have cb1:=hcb w1 m1.1;rw[if_neg n7]at ht1;unfold tkV tokV at ht1;clear he ht cb
   gi_wp2_with fail
   refine⟨trivial,(callsIn_wide.2 ht1).mono ?_⟩;rintro en w2 ⟨rfl,m2⟩;clear ht1 cb1;have m12:=m1.trans m2;have hz:=m12;obtain⟨A,hA⟩:∃A,A=w2.alloc (.cells #[.int .i64 (tk p).kind,.int .i64 p,.int .i64 (tk p).to,.int .i64 l,.int .i64 (tk p).num,.string (tk p).text] 125):=⟨_,rfl⟩
   have mA:Mv B T (tk p).to l false wr A:=m12.trans (by rw[hA];exact Mv.below m12.2 ((Below.refl _ w2).alloc (Nat.le_refl _) _) (Nat.le_refl _));have cbA:=hcb A mA.1;have fA:=mA.2.fz 3;have cA:=mA.2.c3;have HM:Hid (Mv B T (tk p).to l false wr A):=mA;rw[hA]at cbA fA cA;clear m1 m2 m12 hz hcb mA
   gi_wp2_with fail
   rw[<-hA];refine bodyPost_ret (results_none rfl _ _ _) rfl ?_;have hM:=(uh HM)
   have hEE:=(uh HE)
   refine⟨⟨_,rfl⟩,(uh HF) _ (hM.1.setCell 3 _),l,?_⟩;rw[hEE.1,hEE.2];exact hM.2.set3 _
  ·have he:=ended_mv false (by simp;omega) wr hS;have ht:=λw1 (m1:Mv B T p l false wr w1)=>(uh HTK) p l w1 r2 hl0 hl1 (hG.kb (uh HB9) m1.1) m1.2;have hcb:=λw1 (m1:Kb B wr w1)=>((uh HJB) pre w1 ((uh HJ) pre wr w1 hJp m1)).1;have hk0:((tk p).kind==0)=false:=by simpa using r3
   have hto1:=(uh HOK).lt p r2 r3;have hto2:=(uh HOK).le p r2
   obtain⟨l',hl',hl0',hl1'⟩:∃l':Int,l'=(if(tk p).kind=7 then l+1 else l)/\0<=l'/\l'<=((tk p).to:Int)+1:=by
    refine⟨_,rfl,?_,?_⟩
    ·split<;>omega
    ·split<;>omega
   rw[<-hl']at r4;have hyl:=λA (mA:Kb B wr A)=>(uh HY) pre (p,l) A ((uh HJ) pre wr A hJp mA) (by rw[hx,r1];simp);have hbl:=bl_le L (tk p).to hto2;have hblg:=bl_ge L (tk p).to
   have HN:Hid (∀W3 W4,J (pre++[(p,l)]) W3->Mv B T (bl L (tk p).to:Nat) l' false W3 W4->((∃(p:Nat) (l:Int) (pre rest:List (Nat×Int)),p<=L.length/\Hid (xs=pre++rest/\Run L tk p l rest e st/\0<=l/\l<=(p:Int)+1/\Sb B T p l false W4/\J pre W4))/\L.length-atOf B W4<L.length-atOf B wr)):=
    (λW3 W4 hJ3 m4=>⟨⟨bl L (tk p).to,l',pre++[(p,l)],ts,hbl,(⟨by rw[hx,r1];simp,r4,hl0',by omega,m4.2,(uh HJ) _ W3 W4 hJ3 m4.1⟩:_/\_/\_/\_/\_/\_)⟩,by rw[atOf_sb m4.2,hat];omega⟩:∀W3 W4,J (pre++[(p,l)]) W3->Mv B T (bl L (tk p).to:Nat) l' false W3 W4->((∃(p:Nat) (l:Int) (pre rest:List (Nat×Int)),p<=L.length/\Hid (xs=pre++rest/\Run L tk p l rest e st/\0<=l/\l<=(p:Int)+1/\Sb B T p l false W4/\J pre W4))/\L.length-atOf B W4<L.length-atOf B wr))
   have hskip:=λW3 (s3:Sb B T (tk p).to l' false W3)=>(uh HBL) (tk p).to l' W3 (by omega) s3;have hcb3:=λW3 (h3:J (pre++[(p,l)]) W3)=>((uh HJB) _ W3 h3).1;clear HJ HJB HY HTK HOK HTT HLN HBL hx hS hJp hG hat hl0 hl1 hrun r1 r2 r3 r4 hl0' hl1' hto1 hto2 hbl hblg
   gi_wp2_with fail
   refine⟨trivial,(callsIn_wide.2 he).mono ?_⟩;rintro en w1 ⟨rfl,m1⟩;have ht1:=ht w1 m1;have cb1:=hcb w1 m1.1;rw[<-hl']at ht1;unfold tkV tokV at ht1;clear he ht cb hl'
   gi_wp2_with fail
   refine⟨trivial,(callsIn_wide.2 ht1).mono ?_⟩;rintro en w2 ⟨rfl,m2⟩;clear ht1 cb1;have m12:=m1.trans m2;obtain⟨A,hA⟩:∃A,A=w2.alloc (.cells #[.int .i64 (tk p).kind,.int .i64 p,.int .i64 (tk p).to,.int .i64 l,.int .i64 (tk p).num,.string (tk p).text] 125):=⟨_,rfl⟩
   have mA:Mv B T (tk p).to l' false wr A:=m12.trans (by rw[hA];exact Mv.below m12.2 ((Below.refl _ w2).alloc (Nat.le_refl _) _) (Nat.le_refl _));obtain⟨fn,tmps,assign,body,hy,hR⟩:=hyl A mA.1;have hsA:=mA.2;unfold tkV tokV at hy;dsimp only at hy;rw[hA]at hy hR;have HSA:Hid (Sb B T (tk p).to l' false A):=hsA;clear m1 m2 m12 hcb mA hyl hsA
   gi_wp2_with fail
   refine hR.mono ?_;rintro en W3 ⟨rfl,hJ3,hB3⟩;have hS3:Sb B T (tk p).to l' false W3:=by rw[hA]at HSA;exact hB3.trans HSA
   have hsk:=hskip W3 hS3;have cb3:=hcb3 W3 hJ3;have HN3:Hid (∀W4,Mv B T (bl L (tk p).to:Nat) l' false W3 W4->_):=(λW4 m4=>(uh HN) W3 W4 hJ3 m4)
   clear HN hR hy hB3 hS3 hJ3 hskip hcb3 HSA
   gi_wp2_with fail
   refine⟨trivial,(callsIn_wide.2 hsk).mono ?_⟩;rintro en W4 ⟨rfl,m4⟩;have hN:=(uh HN3) W4 m4;clear hsk HN3 m4 cb3
   gi_wp2_with fail
   exact hN
attribute [local go_sem] Oper.semAt_some
def bodyEnd(n₀ B:Nat)(I:List α->World->Prop)(xs:List α)(W:World):Exit->Act->World->Prop
 |.normal,_,W'=>KeepsFrom n₀ W W'/\I xs W'/\W'.heap[B]? =W.heap[B]?
 |_,_,_=>False
theorem wpIn_rangeFunc_st{P:Program}{n:Nat}{g:Operand}{ps:Array Tmp}{assign body:Code}{Q:Exit->Act->World->Prop}{a:Act}
    (h1:1<=n) {gf:Nat} {lb:Array Value} (hg:a.eval g=.func (.func gf) #[] lb) (eg:∀args w,(callFunc gf args).run P w=.ok (.enter gf args) w)
    {encs:α->Array Value} (hps:∀x,(encs x).size=ps.size) (B:Nat) (hB:B<w.heap.size) (xs:List α) (E:World->Prop)
    (I:List α->World->Prop) (hI:OwnFrom w.heap.size I) (hIK:∀s W W',I s W->Kb B W W'->I s W') (h0:I [] w)
    (hE:∀W l o',w.heap.size<=l->E W->E (W.putObj l o'))
    (hiter:∀(lp:Nat) (J:List α->World->Prop) (W:World),Below w.heap.size w W->(∀pre W W',J pre W->Kb B W W'->J pre W')->(∀pre W,J pre W->I pre W)->
      (∀pre x W,J pre W->pre.length<xs.length->YieldAt Fence.wide (n-1-1) P lp (encs x) W λe W'=>e=.returned (.bool true)/\J (pre++[x]) W'/\W'.heap[B]? =W.heap[B]?)->J [] W->
      CallsIn Fence.wide (n-1) P gf (#[.func (.yield lp) #[] #[]]++lb) W λen W'=>(∃v,en=.returned v)/\J xs W'/\E W')
    (obj:α->Obj) (a₁:α->Nat->Act)
    (hassign:∀(l:Nat) (x:α) (W:World) (K:Act->World->Prop),K (a₁ x W.heap.size) (W.alloc (obj x))->
      assign.wpIn (Fence.wide.inRound l) (n-1-1) P (Exit.then K (λ_ _ _=>False)) {tmps:=(ps.zip (encs x)).foldl (λt (p,v)=>t.setIfInBounds p v) a.tmps,defers:=[]} W)
    (hbody:∀(l:Nat) (pre:List α) (x:α) (bx:Nat) (W:World),pre.length<xs.length->I pre W->w.heap.size<=bx->W.heap[bx]? =some (obj x)->
      body.wpIn (Fence.wide.inRound l) (n-1-1) P (bodyEnd w.heap.size B I (pre++[x]) W) (a₁ x bx) W)
    (hdone:∀(D:Nat) (W:World),w.heap.size<=D->I xs W->E W->W.heap[D]? =some (.deferred (some []))->Q .normal {a with defers:={target:=.collected D,args:=#[]}::a.defers} W):
    (Code.rangeFunc g ps assign body).wpIn Fence.wide n P Q a w:=by
  refine wpIn_rangeFunc ?_;intro fn hfn;rw[show Fence.wide.round=none from rfl];obtain⟨rec,hrec⟩:∃rec:LoopState->Option Code->Loop,rec=λst pe=>{state:=st,pending:=pe,fn,tmps:=a.tmps,params:=ps,assign,body,defers:=w.heap.size}:=⟨_,rfl⟩
  obtain⟨W1,hW1⟩:∃W1,(w.alloc (.deferred (some []))).alloc (.loop (rec .ready none))=W1:=⟨_,rfl⟩
  have hL1:W1.heap[w.heap.size+1]? =some (.loop (rec .ready none)):=by
    rw[<-hW1];have:=World.alloc_heap_new (w.alloc (.deferred (some []))) (.loop (rec .ready none));rwa [World.size_alloc]at this
  have hK1:W1.heap[w.heap.size]? =some (.deferred (some [])):=by
    rw[<-hW1];exact(Below.heap_alloc _ _ _ (by simp)).trans (World.alloc_heap_new w _)
  have hI1:I [] W1:=by rw[<-hW1];exact hI.alloc _ (hI.alloc _ h0)
  have hb1:Below w.heap.size w W1:=by
    rw[<-hW1];exact((Below.refl _ w).alloc (Nat.le_refl _) _).alloc (by simp) _
  refine⟨w.heap.size+1,[{target:=.collected w.heap.size,args:=#[]}],W1,{target:=.fn (.func gf) lb,args:=#[.func (.yield (w.heap.size+1)) #[] #[]]},W1,gf,
    #[.func (.yield (w.heap.size+1)) #[] #[]]++lb,W1,?_,?_,?_,?_,λ_=>h1,?_⟩
  · rw[<-hW1,hrec];exact run_enterLoop_outer _ _ _ _ _
  · simp only[resolve,hg];simp[go_sem]
  · intro f' hf';trivial
  · simp[invoke,go_sem,eg]
  · refine (hiter (w.heap.size + 1)
      (λpre W=>I pre W/\W.heap[w.heap.size+1]? =some (.loop (rec .ready none))/\W.heap[w.heap.size]? =some (.deferred (some [])))
      W1 hb1 ?_ (λpre W h=>h.1) ?_ ⟨hI1,hL1,hK1⟩).mono ?_
    · rintro pre W W' ⟨hi,hl,hk⟩ hkb;have l1:w.heap.size+1<W.heap.size:=(Array.getElem?_eq_some_iff.1 hl).1;exact⟨hIK _ _ _ hi hkb,(hkb.block _ l1 (by omega)).trans hl,(hkb.block _ (by omega) (by omega)).trans hk⟩
    · rintro pre x W ⟨hi,hl,hk⟩ hlen;have hlt:w.heap.size+1<W.heap.size:=(Array.getElem?_eq_some_iff.1 hl).1;have hy:=run_yield (P:=P) (args:=encs x) hl (by rw[hrec];exact hps x);rw[hrec]at hy;have hlA:(W.alloc (obj x)).heap[w.heap.size+1]? =some (.loop (rec .ready none)):=(Below.heap_alloc _ _ _ hlt).trans hl;have hkA:(W.alloc (obj x)).heap[w.heap.size]? =some (.deferred (some [])):=(Below.heap_alloc _ _ _ (by omega)).trans hk;refine⟨fn,_,assign,body,hy,roundIn_of_wpIn hfn (hassign _ x W _ ⟨_,run_beginRound hlA (by rw[hrec]),?_⟩)⟩;obtain⟨W2,hW2⟩:∃W2,(W.alloc (obj x)).putObj (w.heap.size+1) (.loop {rec .ready none with state:=.busy})=W2:=⟨_,rfl⟩
      rw[hW2];have hl2:W2.heap[w.heap.size+1]? =some (.loop {rec .ready none with state:=.busy}):=by rw[<-hW2];exact World.putObj_heap_same (by simp;omega)
      have hk2:W2.heap[w.heap.size]? =some (.deferred (some [])):=by rw[<-hW2];exact(World.putObj_heap_other (by omega)).trans hkA
      have hi2:I pre W2:=by rw[<-hW2];exact hI.putObj _ (hI.alloc _ hi) (by omega) hlA rfl
      have hx2:W2.heap[W.heap.size]? =some (obj x):=by rw[<-hW2];exact(World.putObj_heap_other (by omega)).trans (World.alloc_heap_new W _)
      have hB2:W2.heap[B]? =W.heap[B]?:=by rw[<-hW2];exact(World.putObj_heap_other (by omega)).trans (Below.heap_alloc _ _ _ (by omega))
      refine wpIn_mono (hbody _ pre x W.heap.size W2 hlen hi2 (by omega) hx2) ?_;rintro e a3 W3 hp;cases e with
      |normal=>
        obtain⟨hk3,hi3,hB3⟩:=hp;have hl3:=hk3.same _ _ (by omega) hl2 rfl;have hr:=run_endRound (P:=P) none hl3;rw[hrec]at hr hl3⊢;refine⟨_,_,hr,rfl,⟨hI.putObj _ hi3 (by omega) hl3 rfl,World.putObj_heap_same (Array.getElem?_eq_some_iff.1 hl3).1,(World.putObj_heap_other (by omega)).trans (hk3.same _ _ (by omega) hk2 rfl)⟩,?_⟩;exact(World.putObj_heap_other (by omega)).trans (hB3.trans hB2)
      |ret=>exact hp.elim
      |exit id=>exact hp.elim
      |goto t=>exact hp.elim
      |panic ch=>exact hp.elim
      |outgrown=>exact hp.elim
    · rintro e W2 ⟨⟨v,rfl⟩,⟨hi,hl,hk⟩,hE2⟩;exact⟨none,_,by have:=run_endLoop (P:=P) hl (by rw[hrec];simp);rw[hrec]at this;exact this,hdone _ _ (Nat.le_refl _) (hI.putObj _ hi (by omega) hl rfl) (hE _ _ _ (by omega) hE2) ((World.putObj_heap_other (by omega)).trans hk)⟩
theorem impl_tokens(B:Nat)(w:World):Calls Tryz.prog 139 #[.pointer (some ⟨B,0,none⟩)] w λe w'=>e=.returned (.func (.func 142) #[] #[.pointer (some ⟨w.heap.size,0,none⟩)])/\w'=w.alloc (.cells #[.pointer (some ⟨B,0,none⟩)] 186):=by
 go_enter Tryz.func139,Tryz.ntmps139;go_wp2;go_ret;exact⟨rfl,rfl⟩
