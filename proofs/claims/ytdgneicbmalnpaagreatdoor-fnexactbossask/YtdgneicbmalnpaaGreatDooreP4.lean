import Derived.Test.YtdgneicbmalnpaaGreatDooreP2
set_option maxRecDepth 99999
set_option linter.all false
set_option maxHeartbeats 0
namespace Go.Proofs.YtdgneicbmalnpaaGreatDoor
open Proofs.Tryz Go.RowKit
theorem FM:(prog.info? 213).map (λi=>(i.zero,i.size,i.bytes))=some (some (.agg #[Value.bool false,.string ⟨#[]⟩,.int .i64 0,.string ⟨#[]⟩]),4,48):=Y0
theorem a3B(c:UInt8)(w:World):
 Calls prog 300 #[.int .u8 c.toNat] w λe w'=>e=.returned (.bool (U_ c))/\w'=w:=by
 go_in
 go_wp2
 all_goals go_ret
 all_goals refine⟨Z9 ?_,rfl⟩
 all_goals unfold U_
 all_goals simp[*]
 all_goals first|omega|skip
 all_goals(try(simp only[bne]))
theorem c201(s:BY)(w:World)(hs:s.size<=1048700):
 Calls prog 201 #[.string s] w λe w'=>e=.returned (.string ⟨(Z5 s.data.toList).toArray⟩)/\Bw w w':=by
 obtain⟨n,r,q,p,o⟩:=info_parts info5
 go_in
 go_wp2;go_loopw[3,5] (λv i wr=>∃(k:Nat),k<=s.size/\i=.int .i64 k/\wr.ownsRow w.heap.size 5 1 v (34::(s.data.toList.take k).flatMap qb).length (Lib.byteCells (34::(s.data.toList.take k).flatMap qb))/\Below w.heap.size w wr/\w.heap.size+1<=wr.heap.size) (λ_ i _=>s.size-(RowKit.intOf i).toNat);exact⟨0,Nat.zero_le _,rfl,World.ownsRow_lit _ #[.int .u8 34] 1 A8 (by unfold maxLen;omega) rfl,U6,J4⟩;obtain⟨k,hk,rfl,d,f,hz⟩:=hrel;have hL:(34::(s.data.toList.take k).flatMap qb:List UInt8).length<=3*k+1:=by
  have:=Dv (s.data.toList.take k);have h2:(s.data.toList.take k).length<=k:=List.length_take_le _ _;rw[f_];omega
 by_cases F:k<s.size
 ·have A:Hid (34::(s.data.toList.take (k+1)).flatMap qb=(34::(s.data.toList.take k).flatMap qb)++qb s[k]):=by rw[take_snoc s k F];simp[Hid]
  generalize hl:(34::(s.data.toList.take k).flatMap qb:List UInt8)=l at*;clear hl;have hby:(s[k].toNat:Int)<256:=by have:=s[k].toNat_lt;omega
  by_cases b:U_ s[k]=true
  ·have x:Hid (qb s[k]=[s[k]]):=by unfold qb;rw[if_pos b];rfl
   unfold U_ at b;simp only[Fa,Pe,bJ,S_]at b;obtain⟨⟨⟨p1,p2⟩,C⟩,B⟩:=b;have q3:((s[k].toNat:Int) !=34)=true:=by simpa using C
   have q4:((s[k].toNat:Int) !=92)=true:=by simpa using B
   go_wp2_with(at_builtin;refine wpList_append_own _ rfl _ _ 211 rfl w.heap.size 5 n (.int .u8 0) 1 1 underlying211 r q p o rfl U5 _ _ _ rfl (d.alloc _) ⟨wr.heap.size,0,none⟩ 1 1 [_] rfl rfl (cell_one_new _ _ _) (by intro u a;simp at a;subst a;rfl) (by unfold maxLen;omega) O0 L8 ?_;intro v' y g c _)
   go_roundw
   ·have t:=(f.alloc f.size _).grown c L8 (λj m=>(d.lt j m).1);refine⟨k+1,O0,by go_num,?_,t,by have:=c.size;simp at this;omega⟩;rw[A.o,x.o,Na,Q9];exact g
   exact V9
  have x:Hid (qb s[k]=[92,hexL.getD (s[k].toNat / 16) 0,hexL.getD (s[k].toNat % 16) 0]):=by unfold qb;rw[if_neg b];rfl
  have E:=KU b;have k1:IntKind.u8.wrap ((s[k].toNat:Int) / 16)<16:=by rw[WH s[k]];omega
  have k2:0<=(s[k].toNat:Int).tmod 16:=by rw[XU O0];omega
  have k3:(s[k].toNat:Int).tmod 16<16:=by rw[XU O0];omega
  clear b;have e1:∀h1:(IntKind.u8.wrap ((s[k].toNat:Int) / 16)).toNat<dI.size,dI[(IntKind.u8.wrap ((s[k].toNat:Int) / 16)).toNat]'(h1)=hexL.getD (s[k].toNat / 16) 0:=λh1=>by
   rw[dL];congr 1;rw[WH];omega
  have z:∀h1:((s[k].toNat:Int).tmod 16).toNat<dI.size,dI[((s[k].toNat:Int).tmod 16).toNat]'(h1)=hexL.getD (s[k].toNat % 16) 0:=λh1=>by
   rw[dL];congr 1
  have L:=U0 e1;have K:=U0 z;clear e1 z;rcases E with h|h|⟨h,I,H⟩|⟨h,I,H,h3⟩
  all_goals
   go_wp2_with fail
   go_region_law (refine Jv rfl (.tmp 41) (.tmp 54) 211 rfl w.heap.size 5 n (.int .u8 0) 1 1 underlying211 r q p o rfl U5 _ _ _ rfl ((d.alloc _).drew) (aW wr 0) 3 3 [_,_,_] rfl rfl (row3 _ _ _ _ _) (by intro u a;simp at a;rcases a with rfl|rfl|rfl<;>rfl) (by unfold maxLen;omega) O0 L8 ?_;intro v' y g c)
   all_goals go_wp2
   all_goals go_roundw
   all_goals first
    | (refine⟨k+1,O0,by go_num,?_,((f.alloc f.size _).drew).grown c L8 (λj m=>(d.lt j m).1),by have:=c.size;simp at this;omega⟩;rw[A.o,x.o,Na,Q9];have D:=g;rw[show Lib.byteCells [92,hexL.getD (s[k].toNat / 16) 0,hexL.getD (s[k].toNat % 16) 0]=[.int .u8 92,.int .u8 (dI[(IntKind.u8.wrap ((s[k].toNat:Int) / 16)).toNat]'(by show _<16;omega)).toNat,.int .u8 (dI[((s[k].toNat:Int).tmod 16).toNat]'(by show _<16;omega)).toNat] by rw[L.o,K.o];rfl];exact D)
    | (exact V9)
 have J:Hid (Z5 s.data.toList=(34::(s.data.toList.take k).flatMap qb)++[34]):=by rw[p_ L8];rfl
 generalize hl:(34::(s.data.toList.take k).flatMap qb:List UInt8)=l at*;clear hl
 go_wp2_with(at_builtin;refine wpList_append_own _ rfl _ _ 211 rfl w.heap.size 5 n (.int .u8 0) 1 1 underlying211 r q p o rfl U5 _ _ _ rfl (d.alloc _) ⟨wr.heap.size,0,none⟩ 1 1 [_] rfl rfl (cell_one_new _ _ _) (by intro u a;simp at a;subst a;rfl) (by unfold maxLen;omega) O0 L8 ?_;intro v' y g c _;have hcv:=OQ (l:=l++[34]) (by rw[Na];exact g) O0)
 go_ret;have t:=(f.alloc f.size _).grown c L8 (λj m=>(d.lt j m).1);exact⟨by rw[J.o];rfl,t⟩
