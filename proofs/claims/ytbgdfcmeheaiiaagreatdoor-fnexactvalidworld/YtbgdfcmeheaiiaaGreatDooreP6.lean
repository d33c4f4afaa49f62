import Derived.Test.YtbgdfcmeheaiiaaGreatDooreQS
set_option linter.unusedVariables false
set_option linter.unusedSimpArgs false
set_option maxHeartbeats 8000000
set_option maxRecDepth 100000
namespace Go.Proofs.YtbgdfcmeheaiiaaGreatDoor
open Proofs.Tryz Go.RowKit
theorem a5c(s:BY)(w:World)(hs:s.size<=1048700):
 Calls prog 101 #[.string s] w λe w'=>e=.returned (.string ⟨(J5 s.data.toList).toArray⟩)/\Bw w w':=by
 obtain⟨n,r,q,p,o⟩:=info_parts info5
 go_in
 go_wp2;go_loopw[3,5] (λv i wr=>∃(k:Nat),k<=s.size/\i=.int .i64 k/\wr.ownsRow w.heap.size 5 1 v (34::(s.data.toList.take k).flatMap qb).length (Lib.byteCells (34::(s.data.toList.take k).flatMap qb))/\Below w.heap.size w wr/\w.heap.size+1<=wr.heap.size) (λ_ i _=>s.size-(RowKit.intOf i).toNat);exact⟨0,Nat.zero_le _,rfl,World.ownsRow_lit _ #[.int .u8 34] 1 Y8 (by unfold maxLen;omega) rfl,P6,O4⟩;obtain⟨k,hk,rfl,d,f,hz⟩:=hrel;have hL:(34::(s.data.toList.take k).flatMap qb:List UInt8).length<=3*k+1:=by
  have:=Tt (s.data.toList.take k);have h2:(s.data.toList.take k).length<=k:=List.length_take_le _ _;rw[x_];omega
 by_cases F:k<s.size
 ·have A:Hid (34::(s.data.toList.take (k+1)).flatMap qb=(34::(s.data.toList.take k).flatMap qb)++qb s[k]):=by rw[take_snoc s k F];simp[Hid]
  generalize hl:(34::(s.data.toList.take k).flatMap qb:List UInt8)=l at*;clear hl;have hby:(s[k].toNat:Int)<256:=by have:=s[k].toNat_lt;omega
  by_cases b:M_ s[k]=true
  ·have x:Hid (qb s[k]=[s[k]]):=by unfold qb;rw[if_pos b];rfl
   unfold M_ at b;simp only[X_,Zc,FI,K_]at b;obtain⟨⟨⟨p1,p2⟩,C⟩,B⟩:=b;have q3:((s[k].toNat:Int) !=34)=true:=by simpa using C
   have q4:((s[k].toNat:Int) !=92)=true:=by simpa using B
   go_wp2_with(at_builtin;refine wpList_append_own _ rfl _ _ 258 rfl w.heap.size 5 n (.int .u8 0) 1 1 underlying258 r q p o rfl J6 _ _ _ rfl (d.alloc _) ⟨wr.heap.size,0,none⟩ 1 1 [_] rfl rfl (cell_one_new _ _ _) (by intro u a;simp at a;subst a;rfl) (by unfold maxLen;omega) O0 X7 ?_;intro v' y g c _)
   go_roundw
   ·have t:=(f.alloc f.size _).grown c X7 (λj m=>(d.lt j m).1);refine⟨k+1,O0,by go_num,?_,t,by have:=c.size;simp at this;omega⟩;rw[A.out,x.out,S_,L9];exact g
   exact P9
  have x:Hid (qb s[k]=[92,hexL.getD (s[k].toNat / 16) 0,hexL.getD (s[k].toNat % 16) 0]):=by unfold qb;rw[if_neg b];rfl
  have E:=VS b;have k1:IntKind.u8.wrap ((s[k].toNat:Int) / 16)<16:=by rw[RH s[k]];omega
  have k2:0<=(s[k].toNat:Int).tmod 16:=by rw[VT O0];omega
  have k3:(s[k].toNat:Int).tmod 16<16:=by rw[VT O0];omega
  clear b;have e1:∀h1:(IntKind.u8.wrap ((s[k].toNat:Int) / 16)).toNat<dG.size,dG[(IntKind.u8.wrap ((s[k].toNat:Int) / 16)).toNat]'(h1)=hexL.getD (s[k].toNat / 16) 0:=λh1=>by
   rw[iK];congr 1;rw[RH];omega
  have z:∀h1:((s[k].toNat:Int).tmod 16).toNat<dG.size,dG[((s[k].toNat:Int).tmod 16).toNat]'(h1)=hexL.getD (s[k].toNat % 16) 0:=λh1=>by
   rw[iK];congr 1
  have L:=U0 e1;have K:=U0 z;clear e1 z;rcases E with h|h|⟨h,I,H⟩|⟨h,I,H,h3⟩
  all_goals
   go_wp2_with fail
   go_region_law (refine gu rfl (.tmp 41) (.tmp 54) 258 rfl w.heap.size 5 n (.int .u8 0) 1 1 underlying258 r q p o rfl J6 _ _ _ rfl ((d.alloc _).drew) (aW wr 0) 3 3 [_,_,_] rfl rfl (row3 _ _ _ _ _) (by intro u a;simp at a;rcases a with rfl|rfl|rfl<;>rfl) (by unfold maxLen;omega) O0 X7 ?_;intro v' y g c)
   all_goals go_wp2
   all_goals go_roundw
   all_goals first
    | (refine⟨k+1,O0,by go_num,?_,((f.alloc f.size _).drew).grown c X7 (λj m=>(d.lt j m).1),by have:=c.size;simp at this;omega⟩;rw[A.out,x.out,S_,L9];have D:=g;rw[show Lib.byteCells [92,hexL.getD (s[k].toNat / 16) 0,hexL.getD (s[k].toNat % 16) 0]=[.int .u8 92,.int .u8 (dG[(IntKind.u8.wrap ((s[k].toNat:Int) / 16)).toNat]'(by show _<16;omega)).toNat,.int .u8 (dG[((s[k].toNat:Int).tmod 16).toNat]'(by show _<16;omega)).toNat] by rw[L.out,K.out];rfl];exact D)
    | (exact P9)
 have J:Hid (J5 s.data.toList=(34::(s.data.toList.take k).flatMap qb)++[34]):=by rw[p_ X7];rfl
 generalize hl:(34::(s.data.toList.take k).flatMap qb:List UInt8)=l at*;clear hl
 go_wp2_with(at_builtin;refine wpList_append_own _ rfl _ _ 258 rfl w.heap.size 5 n (.int .u8 0) 1 1 underlying258 r q p o rfl J6 _ _ _ rfl (d.alloc _) ⟨wr.heap.size,0,none⟩ 1 1 [_] rfl rfl (cell_one_new _ _ _) (by intro u a;simp at a;subst a;rfl) (by unfold maxLen;omega) O0 X7 ?_;intro v' y g c _;have hcv:=jR (l:=l++[34]) (by rw[S_];exact g) O0)
 go_ret;have t:=(f.alloc f.size _).grown c X7 (λj m=>(d.lt j m).1);exact⟨by rw[J.out];rfl,t⟩
theorem iL:(prog.info? 201).map (λi=>(i.zero,i.size,i.bytes))=some (some (.agg #[Value.bool false,.string ⟨#[]⟩,.int .i64 0,.string ⟨#[]⟩]),4,48):=Y0
theorem eH(s:BY)(w:World)(a:s.size<=1048700):
 Calls prog 101 #[.string s] w λe w'=>e=.returned (.string (Y2 (J5 s.data.toList)))/\Bw w w':=a5c s w a
