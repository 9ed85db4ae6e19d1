import Derived.Test.YtkhdehngobkkfaaGreatDoorATfa
import Derived.Lib.ItoaMem
set_option maxRecDepth 100000
set_option maxHeartbeats 2000000
namespace Go.Proofs.YtkhdehngobkkfaaGreatDoor.Fm
open Go.ChangeShapes Go.WideShapes Go.ChangeAt Go.RowKit
set_option linter.unusedVariables false
variable {b n u k:Nat}{w:World}{S:List UInt8}
theorem pow2_no(b:Nat)(z:Bool)(h:(bits .and .i64 (b:Int) ((b:Int)-1)==0)=z)(hb:2<=b)(hb2:b<=36)(w:World):
  Calls Tryz.prog 156 #[.int .i64 b] w λe w'=>e=.returned (.bool z)/\w'=w:=by
 go_enter Tryz.func156,Tryz.ntmps156;go_wp2;go_ret;exact⟨rfl,rfl⟩
def Z65:Array Value:=Array.replicate 65 (.int .u8 0)
theorem zv63(w:World):(zeroValue 199).run Tryz.prog w=.ok (.agg Z65) w:=by kernel_rfl
theorem row0(w:World):Row w (w.alloc (.cells Z65 199)) 65 []:=by
 refine⟨Grown.alloc (Grown.refl _) _ _,λj hj=>⟨0,?_⟩,λj hj=>?_,λj hj=>by simp at hj⟩
 ·rw[World.cell?_alloc_new];unfold Z65;simp[hj]
 ·exact World.frozen?_alloc_new _ _ _ _
theorem wrt_step(b u:Nat)(hb:2<=b)(hu:b<=u):wrt b u=wrt b (u / b)++[dg (u%b)]:=by
 have h1:1<=u / b:=(Nat.le_div_iff_mul_le (by omega)).2 (by omega);unfold wrt;rw[if_neg (by omega),if_neg (by omega),wr_pos b u hb (by omega)]
theorem wrt_last(b u:Nat)(hb:2<=b)(hu:u<b):wrt b u=[dg u]:=by
 unfold wrt;by_cases h:u=0
 ·subst h;rfl
 ·rw[if_neg h,wr_small b u hb h hu]
theorem wrt_ne(b u:Nat)(hb:2<=b):1<=(wrt b u).length:=by
 by_cases h:u<b
 ·rw[wrt_last b u hb h];simp
 ·rw[wrt_step b u hb (by omega)];simp
structure At (b n:Nat) (w wr:World) (u:Nat) (i:Nat) (S:List UInt8):Prop where
 told:wrt b n=wrt b u++S
 len:i+S.length=65
 lo:2<=i
 row:Row w wr i S
theorem At.start(b n:Nat)(hb:2<=b)(w:World):At b n w (w.alloc (.cells Z65 199)) n 65 []:=⟨by simp,by simp,by omega,row0 w⟩
theorem At.next{wr:World}(h:At b n w wr u (k+1) S)(hb:2<=b)(hn:n<2 ^ 64)(hu:b<=u):
  At b n w (wr.setCell ⟨w.heap.size,k,none⟩ (.int .u8 ((dg (u%b)).toNat:Int))) (u / b) k (dg (u%b)::S):=by
 have hl:=wrt_len b n hb hn;have h1:=h.len;have e:wrt b n=wrt b (u / b)++(dg (u%b)::S):=by rw[h.told,wrt_step b u hb hu];simp
 have h2:=wrt_ne b (u / b) hb;have h3:=congrArg List.length e;simp at h3;exact⟨e,by simp;omega,by omega,h.row.store (by omega) _⟩
theorem At.cellk{wr:World}(h:At b n w wr u (k+1) S):(∃z:Int,wr.cell? ⟨w.heap.size,k,none⟩=some (.int .u8 z))/\wr.frozen? ⟨w.heap.size,k,none⟩=false/\k<65:=by
 have:=h.len;exact⟨h.row.cell k (by omega),h.row.free k (by omega),by omega⟩
theorem div_facts(u:Int)(b:Nat)(hb:2<=b)(hu:0<=u):∃(q r:Nat) (p:Int),u / (b:Int)=(q:Int)/\(q:Int)*(b:Int)=p/\0<=p/\p<=u/\u-p=(r:Int)/\u.toNat / b=q/\u.toNat%b=r/\r<b/\((b:Int)<=u->(q:Int)<u):=by
 obtain⟨U,rfl⟩:=Int.eq_ofNat_of_zero_le hu;have hd:=Nat.div_add_mod U b;have hm:=Nat.mod_lt U (y:=b) (by omega);rw[Nat.mul_comm]at hd;refine⟨U / b,U%b,((U / b*b:Nat):Int),by simp,by simp,by omega,by omega,by omega,by simp,by simp,hm,λh=>?_⟩;have:=Nat.div_lt_self (n:=U) (k:=b) (by omega) (by omega);omega
theorem slk(B k:Nat)(hk:k<65)(W:World):(Instr.sliceAt 199 (.pointer (some ⟨B,0,none⟩)) (some (.int .i64 k)) none none).run Tryz.prog W=.ok (.slice (some ⟨B,k,none⟩) (65-k) (65-k)) W:=by
 have hal:Tryz.prog.arrayLen 199=65:=by simp[Program.arrayLen,Tryz.underlying199]
 rw[run_sliceAt_array_l W 199 ⟨B,0,none⟩ (by simp[Program.arrayLen,Program.elem,Tryz.underlying199]) .i64 (k:Int) (by omega) (by rw[hal];omega)]
 go_simp
 omega
theorem cvk{W:World}{L:List UInt8}(h:Row w W k L)(hl:L.length=65-k):(convert 38 9 (.slice (some ⟨w.heap.size,k,none⟩) (65-k) (65-k))).run Tryz.prog W=.ok (.string ⟨L.toArray⟩) W:=by
 have:=run_convert_bytes_back (P:=Tryz.prog) W 38 9 5 ⟨w.heap.size,k,none⟩ (65-k) L Tryz.underlying38 Tryz.underlying5 Tryz.underlying9 (λj hj=>by
  rw[Lib.add_plain]
  exact h.row j hj)
 rw[hl]at this;exact this
theorem lt_of_cell{off:Nat}{v:Value}(h:w.cell? ⟨b,off,none⟩=some v):b<w.heap.size:=by
 refine Nat.lt_of_not_le λg=>?_;have e:w.heap[b]? =none:=Array.getElem?_eq_none_iff.2 g;simp[World.cell?,e]at h
structure Tab (w:World):Prop where
 lt:9<w.heap.size
 at_:w.cell? ⟨9,15,none⟩=some (.int .u8 4)
theorem Tab.grown{a b:World}(h:Tab a)(g:Grown a b):Tab b:=by
 refine⟨Nat.lt_of_lt_of_le h.lt g.2.2,?_⟩;rw[World.keptBut.cell g.1 h.lt (λf=>f)];exact h.at_
theorem tz16_64(w:World)(h:Tab w):Calls Tryz.prog 166 #[.int .u64 16] w λe w'=>e=.returned (.int .i64 4)/\w'=w:=by
 have h1:=h.at_;clear h;have key:IntKind.u64.wrap (bits .and .u64 16 (IntKind.u64.wrap (-16))*285870213051353865) / 288230376151711744=15:=by decide+kernel
 go_enter Tryz.func166,Tryz.ntmps166;go_wp2_with (simp only[key]);go_ret;exact⟨rfl,rfl⟩
theorem tz16(w:World)(h:Tab w):Calls Tryz.prog 157 #[.int .u64 16] w λe w'=>e=.returned (.int .i64 4)/\w'=w:=by
 have h1:=tz16_64 w h;clear h;go_enter Tryz.func157,Tryz.ntmps157;go_wp2_with fail;refine h1.mono ?_;rintro e w1 ⟨rfl,rfl⟩;clear h1;go_wp2_with fail;go_ret;exact⟨rfl,rfl⟩
theorem fmt_pow(n:Int)(b:Nat)(hb:2<=b)(hb2:b<=36)(hb10:((b:Int)==10)=false)(t:Nat)(ht:t<64)(hbt:2 ^ t=b)(h42:∀w,Tab w->Calls Tryz.prog 157 #[.int .u64 (b:Int)] w λe w'=>e=.returned (.int .i64 (t:Int))/\w'=w)(hp:(bits .and .i64 (b:Int) ((b:Int)-1)==0)=true)(hn:0<=n)(hn2:n<=18446744073709551615)(w:World)(hT:Tab w):
  Calls Tryz.prog 149 #[.slice none 0 0,.int .u64 n,.int .i64 b,.bool false,.bool false] w λe w'=>e=.returned (.tuple #[.slice none 0 0,.string ⟨(wrt b n.toNat).toArray⟩])/\Grown w w':=by
 have h41:=λw=>pow2_no b true hp hb hb2 w;have hv:=zv63;clear hp;have H42:Hid (∀w,Tab w->Calls Tryz.prog 157 #[.int .u64 b] w λe w'=>e=.returned (.int .i64 t)/\w'=w):=h42;have HB:Hid (2 ^ t=b):=hbt;clear h42 hbt;go_enter Tryz.func149,Tryz.ntmps149
 go_wp2_with (first
  |(go_at_call 156;refine(h41 _).mono ?_;rintro e w' ⟨rfl,rfl⟩)
  |(go_at_call 157;refine((uh H42) _ (hT.grown (Grown.alloc (Grown.refl _) _ _))).mono ?_;rintro e w' ⟨rfl,rfl⟩))
 clear h41 hv
 go_loopw [13,1] (λvi vu wr=>∃(u:Int) (i:Nat) (S:List UInt8),Hid (At b n.toNat w wr u.toNat i S)/\0<=u/\u<=18446744073709551615/\2<=i/\i<=65/\vi=.int .i64 i/\vu=.int .u64 u) (λ_ vu _=>(intOf vu).toNat)
 case atStart=>exact⟨n,65,[],At.start b n.toNat hb w,hn,hn2,by omega,by omega,rfl,rfl⟩
 case round=>
  obtain⟨u,i,S,HA,hu,hu2,hi,hi2,rfl,rfl⟩:=hrel;obtain⟨k,rfl⟩:∃k,i=k+1:=⟨i-1,by omega⟩
  obtain⟨⟨z,hc⟩,hf,hk⟩:=(uh HA).cellk;obtain⟨q,r,p,d1,d2,d3,d4,d5,d6,d7,d8,d9⟩:=div_facts u b hb hu;by_cases hge:(b:Int)<=u
  ·have HN:=(uh HA).next hb (by omega) (by omega);rw[d6,d7]at HN;have HN2:Hid (At b n.toNat w (wr.setCell ⟨w.heap.size,k,none⟩ (.int .u8 ((dg r).toNat:Int))) q k (dg r::S)):=HN;have hlo:=HN.lo;have d10:=d9 hge;have hix:=idx r (by omega);have e1:bits .and .u64 u ((b:Int)-1)=(r:Int):=and_pow u b t r (uh HB) hb hb2 hu hu2 d7
   have e2:u / 2 ^ t=(q:Int):=by
    rw[<-d1,<-(uh HB)];simp
   clear HN d1 d2 d3 d4 d5 d6 d7 d9 HA;go_wp2;exact⟨⟨(q:Int),k,dg r::S,(by rw[Int.toNat_natCast];exact HN2),by omega,by omega,hlo,by omega,rfl,by first|rfl|rw[e2]⟩,by simp[intOf];omega⟩
  ·clear d1 d2 d3 d4 d5 d6 d7 d8 d9;obtain⟨U,rfl⟩:=Int.eq_ofNat_of_zero_le hu;have h:=(uh HA)
   rw[Int.toNat_natCast]at h;have hlen:(dg U::S).length=65-k:=by have:=h.len;simp;omega
   have hrow:=h.row.store hk (dg U);have HLI:Hid (wrt b n.toNat=dg U::S):=by show wrt b n.toNat=dg U::S;rw[h.told,wrt_last b U hb (by omega)];rfl
   have hix:=idx U (by omega);clear HA hu hu2 h hn hn2;have hsl:=slk w.heap.size k hk;have hcv:=cvk hrow hlen;have hg:=hrow.grown;clear hrow hlen;go_wp2;go_ret2;refine⟨?_,hg⟩;rw[show wrt b n.toNat=dg U::S from HLI];rfl
