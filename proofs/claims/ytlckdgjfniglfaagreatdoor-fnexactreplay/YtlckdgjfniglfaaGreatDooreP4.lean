import Derived.Test.YtlckdgjfniglfaaGreatDoorQP3
set_option linter.unusedVariables false
set_option maxHeartbeats 8000000
set_option maxRecDepth 100000
namespace Go.Proofs.YtlckdgjfniglfaaGreatDoor
open Proofs.Tryz
open Go.RowKit
theorem c61 (s:ByteArray) (w:World) (hs:s.size<=1048700):
 Calls prog 61 #[.string s] w fun e w'=>e=.returned (.string ⟨(quoteL s.data.toList).toArray⟩)/\Below w.heap.size w w':=by
 obtain ⟨i0,hi,hz0,hz1,hz2⟩:=info_parts info5;go_enter func61,ntmps61
 go_wp2_with fail
 go_loopw [3,5] (fun v i wr=>∃ (k:Nat),k<=s.size/\i=.int .i64 k/\wr.ownsRow w.heap.size 5 1 v (34::(s.data.toList.take k).flatMap qb).length (Lib.byteCells (34::(s.data.toList.take k).flatMap qb))/\Below w.heap.size w wr/\w.heap.size+1<=wr.heap.size) (fun _ i _=>s.size - (intOf i).toNat)
 case atStart=>exact ⟨0,Nat.zero_le _,rfl,World.ownsRow_lit _ #[.int .u8 34] 1 lr_ (by unfold maxLen;omega) rfl,bA_,sm_⟩
 case round=>
  obtain ⟨k,hk,rfl,hown,hb,hz⟩:=hrel;have hL:(34::(s.data.toList.take k).flatMap qb:List UInt8).length<=3*k+1:=by
   have:=flat_len (s.data.toList.take k);have h2:(s.data.toList.take k).length<=k:=List.length_take_le _ _;rw [List.length_cons];omega
  by_cases hlt:k<s.size
  · have HS:Hid (34::(s.data.toList.take (k+1)).flatMap qb=(34::(s.data.toList.take k).flatMap qb)++qb s[k]):=by rw [take_snoc s k hlt];simp [Hid]
    generalize hl:(34::(s.data.toList.take k).flatMap qb:List UInt8)=l at*;clear hl;have hby:(s[k].toNat:Int)<256:=by have:=s[k].toNat_lt;omega
    by_cases hp:plainB s[k]=true
    · have HQ:Hid (qb s[k]=[s[k]]):=by unfold qb;rw [if_pos hp];rfl
      unfold plainB at hp;simp only [Bool.and_eq_true,decide_eq_true_eq,Bool.not_eq_true',beq_eq_false_iff_ne] at hp;obtain ⟨⟨⟨p1,p2⟩,p3⟩,p4⟩:=hp;have q3:((s[k].toNat:Int) !=34)=true:=by simpa using p3
      have q4:((s[k].toNat:Int) !=92)=true:=by simpa using p4
      go_wp2_with (at_builtin;refine wpList_append_own _ rfl _ _ 122 rfl w.heap.size 5 i0 (.int .u8 0) 1 1 underlying122 hi hz0 hz1 hz2 rfl dc_ _ _ _ rfl (hown.alloc _) ⟨wr.heap.size,0,none⟩ 1 1 [_] rfl rfl (cell_one_new _ _ _) (by intro u hu;simp at hu;subst hu;rfl) (by unfold maxLen;omega) om_ so_ ?_;intro v' w2 hown' hgrow _)
      go_roundw
      case rel=>
       have hB2:Below w.heap.size w w2:=(hb.alloc hb.size _).grown hgrow so_ (fun j hj=>(hown.lt j hj).1);refine ⟨k+1,om_,by go_num,?_,hB2,by have:=hgrow.size;simp at this;omega⟩;rw [HS.out,HQ.out,cells_snoc,List.length_append];exact hown'
      case measure=>simp [intOf];omega
    · have HQ:Hid (qb s[k]=[92,hexL.getD (s[k].toNat / 16) 0,hexL.getD (s[k].toNat % 16) 0]):=by unfold qb;rw [if_neg hp];rfl
      have hnp:=notPlain hp;have k1:IntKind.u8.wrap ((s[k].toNat:Int) / 16)<16:=by rw [wrap_div s[k]];omega
      have k2:0<=(s[k].toNat:Int).tmod 16:=by rw [Int.tmod_eq_emod_of_nonneg om_];omega
      have k3:(s[k].toNat:Int).tmod 16<16:=by rw [Int.tmod_eq_emod_of_nonneg om_];omega
      clear hp;have e1:∀ h1:(IntKind.u8.wrap ((s[k].toNat:Int) / 16)).toNat<hexA.size,hexA[(IntKind.u8.wrap ((s[k].toNat:Int) / 16)).toNat]'h1=hexL.getD (s[k].toNat / 16) 0:=fun h1=>by
       rw [hex_get];congr 1;rw [wrap_div];omega
      have e2:∀ h1:((s[k].toNat:Int).tmod 16).toNat<hexA.size,hexA[((s[k].toNat:Int).tmod 16).toNat]'h1=hexL.getD (s[k].toNat % 16) 0:=fun h1=>by
       rw [hex_get];congr 1
      have E1:Hid (∀ h1:(IntKind.u8.wrap ((s[k].toNat:Int) / 16)).toNat<hexA.size,hexA[(IntKind.u8.wrap ((s[k].toNat:Int) / 16)).toNat]'h1=hexL.getD (s[k].toNat / 16) 0):=e1;have E2:Hid (∀ h1:((s[k].toNat:Int).tmod 16).toNat<hexA.size,hexA[((s[k].toNat:Int).tmod 16).toNat]'h1=hexL.getD (s[k].toNat % 16) 0):=e2;clear e1 e2;rcases hnp with h | h | ⟨h,h',h''⟩ | ⟨h,h',h'',h3⟩
      all_goals
       go_wp2_with fail
       go_region_law (refine step_app rfl (.tmp 41) (.tmp 54) 122 rfl w.heap.size 5 i0 (.int .u8 0) 1 1 underlying122 hi hz0 hz1 hz2 rfl dc_ _ _ _ rfl ((hown.alloc _).drew) ⟨wr.heap.size,0,none⟩ 3 3 [_,_,_] rfl rfl (row3 _ _ _ _ _) (by intro u hu;simp at hu;rcases hu with rfl | rfl | rfl <;> rfl) (by unfold maxLen;omega) om_ so_ ?_;intro v' w2 hown' hgrow)
       all_goals go_wp2
       all_goals go_roundw
       all_goals first
        | (refine ⟨k+1,om_,by go_num,?_,((hb.alloc hb.size _).drew).grown hgrow so_ (fun j hj=>(hown.lt j hj).1),by have:=hgrow.size;simp at this;omega⟩;rw [HS.out,HQ.out,cells_snoc,List.length_append];have hq:=hown';rw [show Lib.byteCells [92,hexL.getD (s[k].toNat / 16) 0,hexL.getD (s[k].toNat % 16) 0]=[.int .u8 92,.int .u8 (hexA[(IntKind.u8.wrap ((s[k].toNat:Int) / 16)).toNat]'(by show _<16;omega)).toNat,.int .u8 (hexA[((s[k].toNat:Int).tmod 16).toNat]'(by show _<16;omega)).toNat] by rw [E1.out,E2.out];rfl];exact hq)
        | (simp [intOf];omega)
  · have HT:Hid (quoteL s.data.toList=(34::(s.data.toList.take k).flatMap qb)++[34]):=by rw [List.take_of_length_le so_];rfl
    generalize hl:(34::(s.data.toList.take k).flatMap qb:List UInt8)=l at*;clear hl
    go_wp2_with (at_builtin;refine wpList_append_own _ rfl _ _ 122 rfl w.heap.size 5 i0 (.int .u8 0) 1 1 underlying122 hi hz0 hz1 hz2 rfl dc_ _ _ _ rfl (hown.alloc _) ⟨wr.heap.size,0,none⟩ 1 1 [_] rfl rfl (cell_one_new _ _ _) (by intro u hu;simp at hu;subst hu;rfl) (by unfold maxLen;omega) om_ so_ ?_;intro v' w2 hown' hgrow _;have hcv:=conv_own (l:=l++[34]) (by rw [cells_snoc];exact hown') om_)
    go_ret;have hB2:Below w.heap.size w w2:=(hb.alloc hb.size _).grown hgrow so_ (fun j hj=>(hown.lt j hj).1);exact ⟨by rw [HT.out];rfl,hB2⟩
end Go.Proofs.YtlckdgjfniglfaaGreatDoor
