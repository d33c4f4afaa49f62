import Derived.Test.YthfmmimmfcnhmaaGreatDoorT9
set_option maxHeartbeats 8000000
set_option maxRecDepth 100000
namespace Go.Proofs.YthfmmimmfcnhmaaGreatDoor
open Proofs.Tryz
open Go.RowKit
variable {w:World} {base g n size:Nat}
theorem lines_below {w':World} {ss:List (List UInt8)} (h:LinesAt w g ss) (hb:Below w.heap.size w w'):LinesAt w' g ss:=
 ⟨Nat.lt_of_lt_of_le h.1 hb.size,fun i hi=>by rw [hb.cell (by exact h.1)];exact h.2 i hi⟩
theorem own_formF {e:TypeId} {v:Value} {xs:List Value} (h:w.ownsRow base e size v n xs) (hn:0<n):∃ g cp,v=.slice (some ⟨g,0,none⟩) n cp:=by
 rcases h.2 with ⟨_,h0⟩ | ⟨g,cap,cur,hv,_⟩
 · omega
 exact ⟨g,cap,hv⟩
theorem ext_listF (s:ByteArray) (a b:Nat):(s.extract a b).data.toList=(s.data.toList.take b).drop a:=by
 rw [ByteArray.data_extract,Array.toList_extract,List.extract_eq_take_drop,List.drop_take]
theorem c79 (s:ByteArray) (b:UInt8) (w:World) (hs:s.size<=1048700):
 Calls prog 79 #[.string s,.int .u8 b.toNat] w fun e w'=>(∃ g cp,e=.returned (.slice (some ⟨g,0,none⟩) (cutS b s.data.toList).length cp)/\w.heap.size<=g/\LinesAt w' g (cutS b s.data.toList))/\Below w.heap.size w w':=by
 obtain ⟨i0,hi,hz0,hz1,hz2⟩:=info_parts info9
 have hlen:s.data.toList.length=s.size:=by simp
 go_enter func79,ntmps79
 go_wp2_with fail
 go_loopw [5,6,7] (fun v fr i wr=>∃ (k f:Nat),k<=s.size/\f<=k/\i=.int .i64 k/\fr=.int .i64 f/\wr.ownsRow w.heap.size 9 1 v (cstate b (s.data.toList.take k)).1.length (strL (cstate b (s.data.toList.take k)).1)/\Hid ((s.data.toList.take k).drop f=(cstate b (s.data.toList.take k)).2)/\Below w.heap.size w wr/\w.heap.size+1<=wr.heap.size) (fun _ _ i _=>s.size - (intOf i).toNat)
 case atStart=>exact ⟨0,0,Nat.zero_le _,Nat.le_refl _,rfl,rfl,World.ownsRow_lit _ #[] 0 (Nat.le_refl _) (Nat.zero_le _) rfl,rfl,(Below.refl _ _).alloc (Nat.le_refl _) _,by simp⟩
 obtain ⟨k,f,hk,hf,rfl,rfl,hown,hcur,hb,hz⟩:=hrel
 have hL:(cstate b (s.data.toList.take k)).1.length<=k:=by
  have:=cstate_le b (s.data.toList.take k)
  rw [List.length_take] at this;omega
 by_cases hlt:k<s.size
 rotate_left
 · have HK:Hid (s.data.toList.take k=s.data.toList):=List.take_of_length_le (by omega)
   have HE:Hid (s.extract f s.size=ofL (cstate b (s.data.toList.take k)).2):=ext_ofL (by rw [ext_listF,<- show k=s.size by omega];exact hcur.out)
   have HCU:Hid (cutS b s.data.toList=(cstate b (s.data.toList.take k)).1++[(cstate b (s.data.toList.take k)).2]):=by rw [HK.out];rfl
   clear hcur
   generalize cstate b (s.data.toList.take k)=st at*
   go_wp2_with (at_builtin;refine wpList_append_own _ rfl _ _ 66 rfl w.heap.size 9 i0 (.string ⟨#[]⟩) 1 16 underlying66 hi hz0 hz1 hz2 rfl (by decide) _ _ _ rfl (hown.alloc _) ⟨wr.heap.size,0,none⟩ 1 1 [_] rfl rfl (cell_one_new _ _ _) (by intro u hu;simp at hu;subst hu;rfl) (by unfold maxLen;omega) (by omega) (by simp;omega) ?_;intro v' w2 hown' hgrow _;obtain ⟨g,cp,hvv⟩:=own_formF hown' (by omega);subst hvv)
   go_ret
   have hB2:Below w.heap.size w w2:=(hb.alloc hb.size _).grown hgrow (by simp;omega) (fun j hj=>(hown.lt j hj).1)
   have ho2:w2.ownsRow w.heap.size 9 1 (.slice (some ⟨g,0,none⟩) (st.1.length+1) cp) (st.1.length+1) (strL (cutS b s.data.toList)):=by
    rw [HCU.out,strL_snoc,<- HE.out];exact hown'
   have hlc:(cutS b s.data.toList).length=st.1.length+1:=by rw [HCU.out];simp
   refine ⟨⟨g,cp,by rw [hlc];rfl,(ho2.lt g rfl).1,lines_of_owns ho2 hlc⟩,hB2⟩
 have HS:Hid (cstate b (s.data.toList.take (k+1))=cst b (cstate b (s.data.toList.take k)) s[k]):=by rw [take_snoc s k hlt,cstate_snoc];rfl
 have HE:Hid (s.extract f k=ofL (cstate b (s.data.toList.take k)).2):=ext_ofL (by rw [ext_listF];exact hcur.out)
 by_cases hc:s[k]=b
 · have e1:((s[k].toNat:Int)==(b.toNat:Int))=true:=by rw [hc];simp
   have HC:Hid (cst b (cstate b (s.data.toList.take k)) s[k]=((cstate b (s.data.toList.take k)).1++[(cstate b (s.data.toList.take k)).2],[])):=by unfold cst;rw [if_pos hc];rfl
   have HD:Hid ((s.data.toList.take (k+1)).drop (k+1)=[]):=List.drop_of_length_le (by simp;omega)
   clear hc hcur
   generalize cstate b (s.data.toList.take k)=st at*
   go_wp2_with (at_builtin;refine wpList_append_own _ rfl _ _ 66 rfl w.heap.size 9 i0 (.string ⟨#[]⟩) 1 16 underlying66 hi hz0 hz1 hz2 rfl (by decide) _ _ _ rfl (hown.alloc _) ⟨wr.heap.size,0,none⟩ 1 1 [_] rfl rfl (cell_one_new _ _ _) (by intro u hu;simp at hu;subst hu;rfl) (by unfold maxLen;omega) (by omega) (by simp;omega) ?_;intro v' w2 hown' hgrow _)
   go_roundw
   case rel=>
    have hB2:Below w.heap.size w w2:=(hb.alloc hb.size _).grown hgrow (by simp;omega) (fun j hj=>(hown.lt j hj).1)
    refine ⟨k+1,k+1,by omega,Nat.le_refl _,by go_num,by go_num,?_,?_,hB2,by have:=hgrow.size;simp at this;omega⟩
    · rw [HS.out,HC.out,List.length_append,strL_snoc,<- HE.out]
      exact hown'
    rw [HS.out,HC.out];exact HD.out
   case measure=>simp [intOf];omega
 have e1:((s[k].toNat:Int)==(b.toNat:Int))=false:=by
  simp only [beq_eq_false_iff_ne]
  intro e
  exact hc (UInt8.toNat_inj.1 (by omega))
 have HC:Hid (cst b (cstate b (s.data.toList.take k)) s[k]=((cstate b (s.data.toList.take k)).1,(cstate b (s.data.toList.take k)).2++[s[k]])):=by unfold cst;rw [if_neg hc];rfl
 have HD:Hid ((s.data.toList.take (k+1)).drop f=(s.data.toList.take k).drop f++[s[k]]):=by rw [take_snoc s k hlt,List.drop_append_of_le_length (by simp;omega)];rfl
 clear hc
 generalize cstate b (s.data.toList.take k)=st at*
 go_wp2
 go_roundw
 case rel=>
  refine ⟨k+1,f,by omega,by omega,by go_num,rfl,?_,?_,hb,hz⟩
  · rw [HS.out,HC.out];exact hown
  rw [HS.out,HC.out,HD.out,hcur.out];rfl
 case measure=>simp [intOf];omega
theorem c80 (s:ByteArray) (w:World) (hs:s.size<=1048700):
 Calls prog 80 #[.string s,.int .i64 1] w fun e w'=>(∃ g cp,e=.returned (.tuple #[.slice (some ⟨g,0,none⟩) 1 cp,.string (ofL (restOf s.data.toList))])/\w.heap.size<=g/\LinesAt w' g [wordOf s.data.toList])/\Below w.heap.size w w':=by
 obtain ⟨i0,hi,hz0,hz1,hz2⟩:=info_parts info9
 have hlen:s.data.toList.length=s.size:=by simp
 go_enter func80,ntmps80
 go_wp2_with fail
 go_loopw [0,6,7] (fun sv v i wr=>∃ (m:Nat) (t:ByteArray) (ss:List (List UInt8)),m<=1/\i=.int .i64 m/\sv=.string t/\wr.ownsRow w.heap.size 9 1 v m (strL ss)/\Hid ((m=0->t=s/\ss=[])/\(m=1->t=ofL (restOf s.data.toList)/\ss=[wordOf s.data.toList]))/\Below w.heap.size w wr/\w.heap.size+1<=wr.heap.size) (fun _ _ i _=>1 - (intOf i).toNat)
 case atStart=>exact ⟨0,s,[],Nat.zero_le _,rfl,rfl,World.ownsRow_lit _ #[] 0 (Nat.le_refl _) (Nat.zero_le _) rfl,⟨fun _=>⟨rfl,rfl⟩,fun h=>by omega⟩,(Below.refl _ _).alloc (Nat.le_refl _) _,by simp⟩
 obtain ⟨m,t,ss,hm,rfl,rfl,hown,hrel,hb,hz⟩:=hrel
 by_cases hlt:m<1
 rotate_left
 · obtain rfl:m=1:=by omega
   obtain ⟨rfl,rfl⟩:=hrel.out.2 rfl
   clear hrel
   obtain ⟨g,cp,hvv⟩:=own_formF hown (by omega)
   subst hvv
   go_wp2
   go_ret2
   exact ⟨⟨g,cp,rfl,(hown.lt g rfl).1,lines_of_owns hown rfl⟩,hb⟩
 obtain rfl:m=0:=by omega
 obtain ⟨rfl,rfl⟩:=hrel.out.1 rfl
 clear hrel
 go_wp2_with fail
 go_loop [8] (fun n=>∃ k:Nat,k<=t.size/\n=.int .i64 k/\Hid ((t.data.toList.take k).all (· !=32)=true)) (fun n=>t.size - (intOf n).toNat)
 case atStart=>exact ⟨0,Nat.zero_le _,rfl,rfl⟩
 obtain ⟨k,hk,rfl,ha⟩:=hrel
 by_cases hkt:k<t.size
 rotate_left
 · obtain ⟨hw1,hw2⟩:=word_at (l:=t.data.toList) ha.out (by omega) (.inl (by omega))
   have HW:Hid (t.extract 0 k=ofL (wordOf t.data.toList)):=ext_ofL (by rw [ext_listF,hw1];rfl)
   have HR:Hid (t.extract k t.size=ofL (restOf t.data.toList)):=ext_ofL (by rw [ext_listF,hw2,List.take_of_length_le (by omega),List.drop_of_length_le (by omega),List.drop_of_length_le (by omega)])
   clear hw1 hw2
   go_wp2_with (at_builtin;refine wpList_append_own _ rfl _ _ 66 rfl w.heap.size 9 i0 (.string ⟨#[]⟩) 1 16 underlying66 hi hz0 hz1 hz2 rfl (by decide) _ _ _ rfl (hown.alloc _) ⟨wr.heap.size,0,none⟩ 1 1 [_] rfl rfl (cell_one_new _ _ _) (by intro u hu;simp at hu;subst hu;rfl) (by unfold maxLen;omega) (by omega) (by simp;omega) ?_;intro v' w2 hown' hgrow _)
   go_roundw
   case rel=>
    have hB2:Below w.heap.size w w2:=(hb.alloc hb.size _).grown hgrow (by simp;omega) (fun j hj=>(hown.lt j hj).1)
    refine ⟨1,_,[wordOf t.data.toList],Nat.le_refl _,by go_num,rfl,?_,⟨fun h=>by omega,fun _=>⟨HR.out,rfl⟩⟩,hB2,by have:=hgrow.size;simp at this;omega⟩
    show w2.ownsRow w.heap.size 9 1 _ 1 [.string (ofL (wordOf t.data.toList))]
    rw [<- HW.out]
    exact hown'
   case measure=>simp [intOf]
 have hkt':(k:Int)<(t.size:Int):=by omega
 by_cases h32:t[k]=32
 · have e1:((t[k].toNat:Int) !=32)=false:=by rw [h32];rfl
   obtain ⟨hw1,hw2⟩:=word_at (l:=t.data.toList) ha.out (by omega) (.inr (by simp [hkt];exact h32))
   have HW:Hid (t.extract 0 k=ofL (wordOf t.data.toList)):=ext_ofL (by rw [ext_listF,hw1];rfl)
   have HR:Hid (t.extract (k+1) t.size=ofL (restOf t.data.toList)):=ext_ofL (by rw [ext_listF,hw2,List.take_of_length_le (by omega)])
   clear h32 hw1 hw2
   go_wp2_with (at_builtin;refine wpList_append_own _ rfl _ _ 66 rfl w.heap.size 9 i0 (.string ⟨#[]⟩) 1 16 underlying66 hi hz0 hz1 hz2 rfl (by decide) _ _ _ rfl (hown.alloc _) ⟨wr.heap.size,0,none⟩ 1 1 [_] rfl rfl (cell_one_new _ _ _) (by intro u hu;simp at hu;subst hu;rfl) (by unfold maxLen;omega) (by omega) (by simp;omega) ?_;intro v' w2 hown' hgrow _)
   go_roundw
   case rel=>
    have hB2:Below w.heap.size w w2:=(hb.alloc hb.size _).grown hgrow (by simp;omega) (fun j hj=>(hown.lt j hj).1)
    refine ⟨1,_,[wordOf t.data.toList],Nat.le_refl _,by go_num,rfl,?_,⟨fun h=>by omega,fun _=>⟨HR.out,rfl⟩⟩,hB2,by have:=hgrow.size;simp at this;omega⟩
    show w2.ownsRow w.heap.size 9 1 _ 1 [.string (ofL (wordOf t.data.toList))]
    rw [<- HW.out]
    exact hown'
   case measure=>simp [intOf]
 have e1:((t[k].toNat:Int) !=32)=true:=by
  simp only [bne_iff_ne]
  intro e
  exact h32 (UInt8.toNat_inj.1 (by have:t[k].toNat=32:=by omega
                                   rw [this];rfl))
 have HA:Hid ((t.data.toList.take (k+1)).all (· !=32)=true):=by
  rw [take_snoc t k hkt,List.all_append,ha.out]
  simp [Hid,h32]
 clear h32
 go_wp2
 go_round
 case rel=>exact ⟨k+1,by omega,by go_num,HA⟩
 case measure=>simp [intOf];omega
