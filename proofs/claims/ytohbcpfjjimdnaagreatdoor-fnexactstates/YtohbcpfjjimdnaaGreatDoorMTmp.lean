import Derived.Test.YtohbcpfjjimdnaaGreatDoorMTmgb
namespace Go.Proofs.YtohbcpfjjimdnaaGreatDoor.Fo
open Go.ChangeShapes Go.WideShapes Go.ChangeAt Go.RowKit
set_option linter.unusedVariables false
set_option maxRecDepth 100000
variable {x:Int}{k r:Nat}{s:Rs}{a:Iv}
theorem sp_rolesB(n:Nat)(h1:1<=n)(h2:n<=42)(w:World):Calls Tryz.prog 62 #[.int .i64 n] w λe w'=>∃F:Addr,e=.returned (.slice (some F) 4 4)/\(∀j,j<4->w'.cell? (F.add j)=some (.int .i64 (mr n j:Int)))/\Kb 0 w w'/\w.heap.size<=F.block:=by
 refine(sp_roles n h1 h2 w).mono ?_;rintro e w' ⟨rfl,rfl⟩;refine⟨_,rfl,λj hj=>?_,kb_alloc _ _ _,Nat.le_refl _⟩;rw[addr0];rcases(by omega:j=0\/j=1\/j=2\/j=3)with rfl|rfl|rfl|rfl<;>exact cell_of (alloc_new _ _ _) rfl
theorem sp_fieldsB(a:Iv)(w:World):Calls Tryz.prog 63 #[insv a] w λe w'=>∃F:Addr,e=.returned (.slice (some F) 4 4)/\(∀j,j<4->w'.cell? (F.add j)=some (.int .i64 (fld a j)))/\Kb 0 w w'/\w.heap.size<=F.block:=by
 refine(sp_fields a w).mono ?_;rintro e w' ⟨rfl,rfl⟩;refine⟨_,rfl,λj hj=>?_,kb_alloc2 _ _ _ _,by show w.heap.size<=w.heap.size+1;omega⟩;rw[addr0,show w.heap.size+1=(w.alloc (.cells #[.int .i64 a.o,.int .i64 a.a,.int .i64 a.b,.int .i64 a.c,.int .i64 a.d] 79)).heap.size from(World.size_alloc _ _).symm];rcases(by omega:j=0\/j=1\/j=2\/j=3)with rfl|rfl|rfl|rfl<;>exact cell_of (alloc_new _ _ _) rfl
def RL(a:Iv)(T:List Int)(base q:Nat)(vt:Value)(w4:World)(j:Nat)(vk vs:Value)(W:World):Prop:=∃s,rdn a T j=some s/\RM base q vt w4 s.T s.S (mk a j s.K) vk vs W
theorem rgt_neg(h:x=-1-(k:Int)):rgt x=k/\x<0:=by unfold rgt;refine⟨?_,by omega⟩;rw[if_pos (by omega)];omega
theorem rgt_pos(h:x=(k:Int)):rgt x=k/\¬x<0:=by unfold rgt;refine⟨?_,by omega⟩;rw[if_neg (by omega)];omega
theorem rd1_one{wv:Int}(g1:wts r=[wv])(hk:rgt x=(k:Int)):rd1 r x s=if s.T[k]? =some wv/\¬(x<0/\(k:Int)∈ s.S)then some (if x<0 then⟨s.T.set k 0,s.S,s.K++[(k:Int)]⟩else if opd r=true then s else⟨s.T,s.S++[(k:Int)],s.K⟩)else none:=by
 unfold rd1;rw[if_neg (by rw[g1];simp),g1,hk,show((k:Int)).toNat=k from rfl,show([wv]:List Int).length=1 from rfl];simp only[take1]
theorem rd1_more(hr:r=19\/r=20\/r=21):rd1 r (k:Int) s=if(s.T.drop k).take (wts r).length=wts r then some ⟨s.T,s.S++[(k:Int)],s.K⟩else none:=by
 have hx:=rgt_pos (x:=(k:Int)) (k:=k) rfl;unfold rd1;rw[if_neg (by rcases hr with rfl|rfl|rfl<;>decide),hx.1,show((k:Int)).toNat=k from rfl];by_cases c:(s.T.drop k).take (wts r).length=wts r
 ·rw[if_pos ⟨c,λq=>hx.2 q.1⟩,if_pos c,if_neg hx.2,if_neg (by rcases hr with rfl|rfl|rfl<;>decide)]
 ·rw[if_neg (λq=>c q.1),if_neg c]
theorem mk_ne{j:Nat}{K:List Int}(h:a.o≠40):mk a j K=K:=by unfold mk;rw[if_neg (λq=>h q.1)];simp
theorem rd_11(T:List Int)(h:a.o=11):rd a T=some ⟨T,[],[]⟩:=by
 have e:a.o.toNat=11:=by omega
 have st:∀j,j<4->rdn a T j=some ⟨T,[],[]⟩->rdn a T (j+1)=some ⟨T,[],[]⟩:=λj hj hh=>by
  rw[rdn_next hh,e];unfold rd1;rw[if_pos ((rc_all 11 (by omega) j hj).2.2 rfl)]
 exact st 3 (by omega) (st 2 (by omega) (st 1 (by omega) (st 0 (by omega) rfl)))
