import Derived.Laws.OwnMore
import Derived.Test.YtchjpjmcnhjbcaaGreatDooreQS
set_option maxRecDepth 100000
set_option linter.unusedVariables false
set_option maxHeartbeats 8000000
namespace Go.Proofs.YtchjpjmcnhjbcaaGreatDoor
open Proofs.Tryz Go.RowKit
theorem VJ:(prog.info? 185).map (fun i=>(i.zero,i.size,i.bytes))=some (some (.agg #[Value.bool false,.string ⟨#[]⟩,.int .i64 0,.string ⟨#[]⟩]),4,48):=Y2
theorem a3G (s:BY) (w:World) (hs:s.size<=1048700):
 Calls prog 187 #[.string s] w fun e w'=>e=.returned (.string ⟨(P5 s.data.toList).toArray⟩)/\Bw w w':=by
 obtain ⟨o,t,r,q,p⟩:=info_parts info5;go_enter func187,ntmps187
 go_wp2_with fail
 go_loopw [3,5] (fun v i wr=>∃ (k:Nat),k<=s.size/\i=.int .i64 k/\wr.ownsRow w.heap.size 5 1 v (34::(s.data.toList.take k).flatMap qb).length (Lib.byteCells (34::(s.data.toList.take k).flatMap qb))/\Below w.heap.size w wr/\w.heap.size+1<=wr.heap.size) (fun _ i _=>s.size - (RowKit.intOf i).toNat)
 case atStart=>exact ⟨0,Nat.zero_le _,rfl,World.ownsRow_lit _ #[.int .u8 34] 1 H8 (by unfold maxLen;omega) rfl,P6,X4⟩
 case round=>
  obtain ⟨k,hk,rfl,d,f,hz⟩:=hrel;have hL:(34::(s.data.toList.take k).flatMap qb:List UInt8).length<=3*k+1:=by
   have:=yt (s.data.toList.take k);have h2:(s.data.toList.take k).length<=k:=List.length_take_le _ _;rw [o_];omega
  by_cases F:k<s.size
  · have A:Hid (34::(s.data.toList.take (k+1)).flatMap qb=(34::(s.data.toList.take k).flatMap qb)++qb s[k]):=by rw [take_snoc s k F];simp [Hid]
    generalize hl:(34::(s.data.toList.take k).flatMap qb:List UInt8)=l at*;clear hl;have hby:(s[k].toNat:Int)<256:=by have:=s[k].toNat_lt;omega
    by_cases b:H_ s[k]=true
    · have y:Hid (qb s[k]=[s[k]]):=by unfold qb;rw [if_pos b];rfl
      unfold H_ at b;simp only [V_,Ud,qI,p_] at b;obtain ⟨⟨⟨p1,p2⟩,C⟩,B⟩:=b;have q3:((s[k].toNat:Int) !=34)=true:=by simpa using C
      have q4:((s[k].toNat:Int) !=92)=true:=by simpa using B
      go_wp2_with (at_builtin;refine wpList_append_own _ rfl _ _ 183 rfl w.heap.size 5 o (.int .u8 0) 1 1 underlying183 t r q p rfl o6 _ _ _ rfl (d.alloc _) ⟨wr.heap.size,0,none⟩ 1 1 [_] rfl rfl (cell_one_new _ _ _) (by intro u a;simp at a;subst a;rfl) (by unfold maxLen;omega) O0 U7 ?_;intro v' n g c _)
      go_roundw
      case rel=>
       have x:Bw w n:=(f.alloc f.size _).grown c U7 (fun j m=>(d.lt j m).1);refine ⟨k+1,O0,by go_num,?_,x,by have:=c.size;simp at this;omega⟩;rw [A.out,y.out,O_,D9];exact g
      case measure=>simp [RowKit.intOf];omega
    · have y:Hid (qb s[k]=[92,hexL.getD (s[k].toNat / 16) 0,hexL.getD (s[k].toNat % 16) 0]):=by unfold qb;rw [if_neg b];rfl
      have E:=LQ b;have k1:IntKind.u8.wrap ((s[k].toNat:Int) / 16)<16:=by rw [LG s[k]];omega
      have k2:0<=(s[k].toNat:Int).tmod 16:=by rw [gQ O0];omega
      have k3:(s[k].toNat:Int).tmod 16<16:=by rw [gQ O0];omega
      clear b;have e1:∀ h1:(IntKind.u8.wrap ((s[k].toNat:Int) / 16)).toNat<Gw.size,Gw[(IntKind.u8.wrap ((s[k].toNat:Int) / 16)).toNat]'h1=hexL.getD (s[k].toNat / 16) 0:=fun h1=>by
       rw [BK];congr 1;rw [LG];omega
      have z:∀ h1:((s[k].toNat:Int).tmod 16).toNat<Gw.size,Gw[((s[k].toNat:Int).tmod 16).toNat]'h1=hexL.getD (s[k].toNat % 16) 0:=fun h1=>by
       rw [BK];congr 1
      have L:Hid (∀ h1:(IntKind.u8.wrap ((s[k].toNat:Int) / 16)).toNat<Gw.size,Gw[(IntKind.u8.wrap ((s[k].toNat:Int) / 16)).toNat]'h1=hexL.getD (s[k].toNat / 16) 0):=e1;have K:Hid (∀ h1:((s[k].toNat:Int).tmod 16).toNat<Gw.size,Gw[((s[k].toNat:Int).tmod 16).toNat]'h1=hexL.getD (s[k].toNat % 16) 0):=z;clear e1 z;rcases E with h | h | ⟨h,I,H⟩ | ⟨h,I,H,h3⟩
      all_goals
       go_wp2_with fail
       go_region_law (refine Ur rfl (.tmp 41) (.tmp 54) 183 rfl w.heap.size 5 o (.int .u8 0) 1 1 underlying183 t r q p rfl o6 _ _ _ rfl ((d.alloc _).drew) (aW wr 0) 3 3 [_,_,_] rfl rfl (row3 _ _ _ _ _) (by intro u a;simp at a;rcases a with rfl | rfl | rfl <;> rfl) (by unfold maxLen;omega) O0 U7 ?_;intro v' n g c)
       all_goals go_wp2
       all_goals go_roundw
       all_goals first
        | (refine ⟨k+1,O0,by go_num,?_,((f.alloc f.size _).drew).grown c U7 (fun j m=>(d.lt j m).1),by have:=c.size;simp at this;omega⟩;rw [A.out,y.out,O_,D9];have D:=g;rw [show Lib.byteCells [92,hexL.getD (s[k].toNat / 16) 0,hexL.getD (s[k].toNat % 16) 0]=[.int .u8 92,.int .u8 (Gw[(IntKind.u8.wrap ((s[k].toNat:Int) / 16)).toNat]'(by show _<16;omega)).toNat,.int .u8 (Gw[((s[k].toNat:Int).tmod 16).toNat]'(by show _<16;omega)).toNat] by rw [L.out,K.out];rfl];exact D)
        | (simp [RowKit.intOf];omega)
  · have J:Hid (P5 s.data.toList=(34::(s.data.toList.take k).flatMap qb)++[34]):=by rw [l_ U7];rfl
    generalize hl:(34::(s.data.toList.take k).flatMap qb:List UInt8)=l at*;clear hl
    go_wp2_with (at_builtin;refine wpList_append_own _ rfl _ _ 183 rfl w.heap.size 5 o (.int .u8 0) 1 1 underlying183 t r q p rfl o6 _ _ _ rfl (d.alloc _) ⟨wr.heap.size,0,none⟩ 1 1 [_] rfl rfl (cell_one_new _ _ _) (by intro u a;simp at a;subst a;rfl) (by unfold maxLen;omega) O0 U7 ?_;intro v' n g c _;have hcv:=AP (l:=l++[34]) (by rw [O_];exact g) O0)
    go_ret;have x:Bw w n:=(f.alloc f.size _).grown c U7 (fun j m=>(d.lt j m).1);exact ⟨by rw [J.out];rfl,x⟩
