import Derived.Test.YtdpoaadafcaffaaGreatDoorT9
set_option linter.unusedVariables false
set_option maxHeartbeats 8000000
set_option maxRecDepth 100000
namespace Go.Proofs.YtdpoaadafcaffaaGreatDoor
open Proofs.Tryz
open Go.RowKit
variable {w:World} {base g n size:Nat}
theorem Dc {w':World} {ss:List (List UInt8)} (h:P6 w g ss) (hb:Below w.heap.size w w'):P6 w' g ss:=
 ⟨Nat.lt_of_lt_of_le h.1 hb.size,fun i hi=>by rw [hb.cell (by exact h.1)];exact h.2 i hi⟩
theorem ae {e:TypeId} {v:Value} {xs:List Value} (h:w.ownsRow base e size v n xs) (hn:0<n):∃ g cp,v=.slice (some ⟨g,0,none⟩) n cp:=by
 rcases h.2 with ⟨_,h0⟩ | ⟨g,cap,cur,hv,_⟩
 · omega
 exact ⟨g,cap,hv⟩
theorem U8 (s:ByteArray) (a b:Nat):(s.extract a b).data.toList=(s.data.toList.take b).drop a:=by
 rw [ByteArray.data_extract,Array.toList_extract,List.extract_eq_take_drop,List.drop_take]
theorem PH (s:ByteArray) (b:UInt8) (w:World) (hs:s.size<=1048700):
 Calls prog 120 #[.string s,.int .u8 b.toNat] w fun e w'=>(∃ g cp,e=.returned (.slice (some ⟨g,0,none⟩) (Z6 b s.data.toList).length cp)/\w.heap.size<=g/\P6 w' g (Z6 b s.data.toList))/\Below w.heap.size w w':=by
 obtain ⟨i0,hi,hz0,hz1,hz2⟩:=info_parts Yv;have hlen:s.data.toList.length=s.size:=U0;go_enter func120,ntmps120
 go_wp2_with fail
 go_loopw [5,6,7] (fun v fr i wr=>∃ (k f:Nat),k<=s.size/\f<=k/\i=.int .i64 k/\fr=.int .i64 f/\wr.ownsRow w.heap.size 9 1 v (E5 b (s.data.toList.take k)).1.length (Ei (E5 b (s.data.toList.take k)).1)/\Hid ((s.data.toList.take k).drop f=(E5 b (s.data.toList.take k)).2)/\Below w.heap.size w wr/\w.heap.size+1<=wr.heap.size) (fun _ _ i _=>s.size - (intOf i).toNat)
 case atStart=>exact ⟨0,0,Nat.zero_le _,Nat.le_refl _,rfl,rfl,World.ownsRow_lit _ #[] 0 Q8 (Nat.zero_le _) rfl,rfl,bA,U0⟩
 obtain ⟨k,f,hk,hf,rfl,rfl,hown,hcur,hb,hz⟩:=hrel;have hL:(E5 b (s.data.toList.take k)).1.length<=k:=by
  have:=Wi b (s.data.toList.take k);rw [List.length_take] at this;omega
 by_cases hlt:k<s.size;rotate_left
 · have HK:Hid (s.data.toList.take k=s.data.toList):=List.take_of_length_le O0
   have HE:Hid (s.extract f s.size=K3 (E5 b (s.data.toList.take k)).2):=P9 (by rw [U8,<- show k=s.size by omega];exact hcur.out);have rU:Hid (Z6 b s.data.toList=(E5 b (s.data.toList.take k)).1++[(E5 b (s.data.toList.take k)).2]):=by rw [HK.out];rfl
   clear hcur;generalize E5 b (s.data.toList.take k)=st at*
   go_wp2_with (at_builtin;refine wpList_append_own _ rfl _ _ 73 rfl w.heap.size 9 i0 (.string ⟨#[]⟩) 1 16 underlying73 hi hz0 hz1 hz2 rfl J3 _ _ _ rfl (hown.alloc _) ⟨wr.heap.size,0,none⟩ 1 1 [_] rfl rfl (cell_one_new _ _ _) (by intro u hu;simp at hu;subst hu;rfl) (by unfold maxLen;omega) O0 X3 ?_;intro v' w2 hown' hgrow _;obtain ⟨g,cp,hvv⟩:=ae hown' O0;subst hvv)
   go_ret;have hB2:=(hb.alloc hb.size _).grown hgrow X3 (fun j hj=>(hown.lt j hj).1);have ho2:w2.ownsRow w.heap.size 9 1 (.slice (some ⟨g,0,none⟩) (st.1.length+1) cp) (st.1.length+1) (Ei (Z6 b s.data.toList)):=by
    rw [rU.out,Uc,<- HE.out];exact hown'
   have hlc:(Z6 b s.data.toList).length=st.1.length+1:=by rw [rU.out];simp
   refine ⟨⟨g,cp,by rw [hlc];rfl,(ho2.lt g rfl).1,Vb ho2 hlc⟩,hB2⟩
 have HS:Hid (E5 b (s.data.toList.take (k+1))=cst b (E5 b (s.data.toList.take k)) s[k]):=by rw [o9 s k hlt,zk];rfl
 have HE:Hid (s.extract f k=K3 (E5 b (s.data.toList.take k)).2):=P9 (by rw [U8];exact hcur.out);by_cases hc:s[k]=b
 · have e1:((s[k].toNat:Int)==(b.toNat:Int))=true:=by rw [hc];simp
   have HC:Hid (cst b (E5 b (s.data.toList.take k)) s[k]=((E5 b (s.data.toList.take k)).1++[(E5 b (s.data.toList.take k)).2],[])):=by unfold cst;rw [if_pos hc];rfl
   have HD:Hid ((s.data.toList.take (k+1)).drop (k+1)=[]):=List.drop_of_length_le X3;clear hc hcur;generalize E5 b (s.data.toList.take k)=st at*
   go_wp2_with (at_builtin;refine wpList_append_own _ rfl _ _ 73 rfl w.heap.size 9 i0 (.string ⟨#[]⟩) 1 16 underlying73 hi hz0 hz1 hz2 rfl J3 _ _ _ rfl (hown.alloc _) ⟨wr.heap.size,0,none⟩ 1 1 [_] rfl rfl (cell_one_new _ _ _) (by intro u hu;simp at hu;subst hu;rfl) (by unfold maxLen;omega) O0 X3 ?_;intro v' w2 hown' hgrow _)
   go_roundw
   case rel=>
    have hB2:=(hb.alloc hb.size _).grown hgrow X3 (fun j hj=>(hown.lt j hj).1);refine ⟨k+1,k+1,O0,Nat.le_refl _,by go_num,by go_num,?_,?_,hB2,by have:=hgrow.size;simp at this;omega⟩
    · rw [HS.out,HC.out,List.length_append,Uc,<- HE.out]
      exact hown'
    rw [HS.out,HC.out];exact HD.out
   case measure=>simp [intOf];omega
 have e1:((s[k].toNat:Int)==(b.toNat:Int))=false:=by
  simp only [beq_eq_false_iff_ne];intro e;exact hc (UInt8.toNat_inj.1 O0)
 have HC:Hid (cst b (E5 b (s.data.toList.take k)) s[k]=((E5 b (s.data.toList.take k)).1,(E5 b (s.data.toList.take k)).2++[s[k]])):=by unfold cst;rw [if_neg hc];rfl
 have HD:Hid ((s.data.toList.take (k+1)).drop f=(s.data.toList.take k).drop f++[s[k]]):=by rw [o9 s k hlt,List.drop_append_of_le_length X3];rfl
 clear hc;generalize E5 b (s.data.toList.take k)=st at*;go_wp2;go_roundw
 case rel=>
  refine ⟨k+1,f,O0,O0,by go_num,rfl,?_,?_,hb,hz⟩
  · rw [HS.out,HC.out];exact hown
  rw [HS.out,HC.out,HD.out,hcur.out];rfl
 case measure=>simp [intOf];omega
theorem lJ (s:ByteArray) (w:World) (hs:s.size<=1048700):
 Calls prog 121 #[.string s,.int .i64 1] w fun e w'=>(∃ g cp,e=.returned (.tuple #[.slice (some ⟨g,0,none⟩) 1 cp,.string (K3 (Z0 s.data.toList))])/\w.heap.size<=g/\P6 w' g [U1 s.data.toList])/\Below w.heap.size w w':=by
 obtain ⟨i0,hi,hz0,hz1,hz2⟩:=info_parts Yv;have hlen:s.data.toList.length=s.size:=U0;go_enter func121,ntmps121
 go_wp2_with fail
 go_loopw [0,6,7] (fun sv v i wr=>∃ (m:Nat) (t:ByteArray) (ss:List (List UInt8)),m<=1/\i=.int .i64 m/\sv=.string t/\wr.ownsRow w.heap.size 9 1 v m (Ei ss)/\Hid ((m=0->t=s/\ss=[])/\(m=1->t=K3 (Z0 s.data.toList)/\ss=[U1 s.data.toList]))/\Below w.heap.size w wr/\w.heap.size+1<=wr.heap.size) (fun _ _ i _=>1 - (intOf i).toNat)
 case atStart=>exact ⟨0,s,[],Nat.zero_le _,rfl,rfl,World.ownsRow_lit _ #[] 0 Q8 (Nat.zero_le _) rfl,⟨fun _=>⟨rfl,rfl⟩,fun h=>O0⟩,bA,U0⟩
 obtain ⟨m,t,ss,hm,rfl,rfl,hown,hrel,hb,hz⟩:=hrel;by_cases hlt:m<1;rotate_left
 · obtain rfl:m=1:=O0
   obtain ⟨rfl,rfl⟩:=hrel.out.2 rfl;clear hrel;obtain ⟨g,cp,hvv⟩:=ae hown O0;subst hvv;go_wp2;go_ret2;exact ⟨⟨g,cp,rfl,(hown.lt g rfl).1,Vb hown rfl⟩,hb⟩
 obtain rfl:m=0:=O0;obtain ⟨rfl,rfl⟩:=hrel.out.1 rfl;clear hrel
 go_wp2_with fail
 go_loop [8] (fun n=>∃ k:Nat,k<=t.size/\n=.int .i64 k/\Hid ((t.data.toList.take k).all (· !=32)=true)) (fun n=>t.size - (intOf n).toNat)
 case atStart=>exact ⟨0,Nat.zero_le _,rfl,rfl⟩
 obtain ⟨k,hk,rfl,ha⟩:=hrel;by_cases hkt:k<t.size;rotate_left
 · obtain ⟨hw1,hw2⟩:=Oe (l:=t.data.toList) ha.out O0 (.inl O0)
   have HW:Hid (t.extract 0 k=K3 (U1 t.data.toList)):=P9 (by rw [U8,hw1];rfl);have HR:Hid (t.extract k t.size=K3 (Z0 t.data.toList)):=P9 (by rw [U8,hw2,List.take_of_length_le O0,List.drop_of_length_le O0,List.drop_of_length_le O0]);clear hw1 hw2
   go_wp2_with (at_builtin;refine wpList_append_own _ rfl _ _ 73 rfl w.heap.size 9 i0 (.string ⟨#[]⟩) 1 16 underlying73 hi hz0 hz1 hz2 rfl J3 _ _ _ rfl (hown.alloc _) ⟨wr.heap.size,0,none⟩ 1 1 [_] rfl rfl (cell_one_new _ _ _) (by intro u hu;simp at hu;subst hu;rfl) (by unfold maxLen;omega) O0 X3 ?_;intro v' w2 hown' hgrow _)
   go_roundw
   case rel=>
    have hB2:=(hb.alloc hb.size _).grown hgrow X3 (fun j hj=>(hown.lt j hj).1);refine ⟨1,_,[U1 t.data.toList],Nat.le_refl _,by go_num,rfl,?_,⟨fun h=>O0,fun _=>⟨HR.out,rfl⟩⟩,hB2,by have:=hgrow.size;simp at this;omega⟩;show w2.ownsRow w.heap.size 9 1 _ 1 [.string (K3 (U1 t.data.toList))];rw [<- HW.out];exact hown'
   case measure=>simp [intOf]
 have a1Z:(k:Int)<(t.size:Int):=O0;by_cases h32:t[k]=32
 · have e1:((t[k].toNat:Int) !=32)=false:=by rw [h32];rfl
   obtain ⟨hw1,hw2⟩:=Oe (l:=t.data.toList) ha.out O0 (.inr (by simp [hkt];exact h32));have HW:Hid (t.extract 0 k=K3 (U1 t.data.toList)):=P9 (by rw [U8,hw1];rfl);have HR:Hid (t.extract (k+1) t.size=K3 (Z0 t.data.toList)):=P9 (by rw [U8,hw2,List.take_of_length_le O0]);clear h32 hw1 hw2
   go_wp2_with (at_builtin;refine wpList_append_own _ rfl _ _ 73 rfl w.heap.size 9 i0 (.string ⟨#[]⟩) 1 16 underlying73 hi hz0 hz1 hz2 rfl J3 _ _ _ rfl (hown.alloc _) ⟨wr.heap.size,0,none⟩ 1 1 [_] rfl rfl (cell_one_new _ _ _) (by intro u hu;simp at hu;subst hu;rfl) (by unfold maxLen;omega) O0 X3 ?_;intro v' w2 hown' hgrow _)
   go_roundw
   case rel=>
    have hB2:=(hb.alloc hb.size _).grown hgrow X3 (fun j hj=>(hown.lt j hj).1);refine ⟨1,_,[U1 t.data.toList],Nat.le_refl _,by go_num,rfl,?_,⟨fun h=>O0,fun _=>⟨HR.out,rfl⟩⟩,hB2,by have:=hgrow.size;simp at this;omega⟩;show w2.ownsRow w.heap.size 9 1 _ 1 [.string (K3 (U1 t.data.toList))];rw [<- HW.out];exact hown'
   case measure=>simp [intOf]
 have e1:((t[k].toNat:Int) !=32)=true:=by
  simp only [bne_iff_ne];intro e;exact h32 (UInt8.toNat_inj.1 (by have:t[k].toNat=32:=O0;rw [this];rfl))
 have HA:Hid ((t.data.toList.take (k+1)).all (· !=32)=true):=by
  rw [o9 t k hkt,List.all_append,ha.out];simp [Hid,h32]
 clear h32;go_wp2
 go_round
 case rel=>exact ⟨k+1,O0,by go_num,HA⟩
 case measure=>simp [intOf];omega
end Go.Proofs.YtdpoaadafcaffaaGreatDoor
