import Derived.Test.YtmalddmgdjkgaaaGreatDoorZ14
namespace Go.Proofs.YtmalddmgdjkgaaaGreatDoor
open Go.RowKit
def Unq (q t:List UInt8) (ok:Bool):Prop:=(ok=true→q=quoteL t)∧(ok=false→∀ l,q≠quoteL l)
def Is74 (q:List UInt8) (e:Ending):Prop:=∃ t ok,e=.returned (.tuple #[.string (ofL t),.bool ok])∧Unq q t ok
theorem ext_list (s:ByteArray) (a b:Nat):(s.extract a b).data.toList=(s.data.toList.take b).drop a:=by
 rw [ByteArray.data_extract,Array.toList_extract,List.extract_eq_take_drop,List.drop_take]
theorem drop_at (s:ByteArray) (k:Nat) (h:k<s.size):s.data.toList.drop k=s[k]::s.data.toList.drop (k+1):=by
 rw [List.drop_eq_getElem_cons (by simpa using h)]
 rfl
theorem inner_of (q:ByteArray) (h2:2≤q.size) (hf:(q[0].toNat:Int)=34) (hl:(q[q.size - 1].toNat:Int)=34):q.data.toList=34::((q.extract 1 (q.size - 1)).data.toList++[34]):=by
 have e0:q[0]=34:=UInt8.toNat_inj.1 (by have:q[0].toNat=34:=by omega
                                        rw [this];rfl)
 have e1:q[q.size - 1]=34:=UInt8.toNat_inj.1 (by have:q[q.size - 1].toNat=34:=by omega
                                                 rw [this];rfl)
 have hlen:q.data.toList.length=q.size:=by simp
 have t1:q.data.toList=q.data.toList.take (q.size - 1)++q.data.toList.drop (q.size - 1):=(List.take_append_drop _ _).symm
 have d0:=drop_at q (q.size - 1) (by omega)
 rw [e1,List.drop_of_length_le (show q.data.toList.length≤q.size - 1+1 by omega)] at d0
 have d1:=drop_at q 0 (by omega)
 rw [e0] at d1
 simp only [List.drop_zero,Nat.zero_add] at d1
 rw [ext_list]
 have t2:q.data.toList.take (q.size - 1)=34::(q.data.toList.take (q.size - 1)).drop 1:=by
  obtain ⟨m,hm⟩:∃ m,q.size - 1=m+1:=⟨q.size - 2,by omega⟩
  rw [hm]
  conv=>lhs;rw [d1]
  rw [d1]
  simp
 rw [← List.cons_append,← t2,← d0]
 exact t1
theorem not_quote {q:List UInt8} (h:q.length<2∨q.headD 0≠34∨q.getLastD 0≠34):∀ l,q≠quoteL l:=by
 intro l e
 subst e
 rcases h with h | h | h
 · have:=quote_ge l;omega
 · exact h rfl
 apply h
 show (34::(l.flatMap qb++[34])).getLastD 0=34
 rw [← List.cons_append,List.getLastD_concat]
theorem take_ext (s:ByteArray) (k:Nat) (_:k≤s.size):s.data.toList=s.data.toList.take k++(s.extract k s.size).data.toList:=by
 rw [ext_list,List.take_of_length_le (show s.data.toList.length≤s.size by simp),List.take_append_drop]
set_option maxHeartbeats 1000000 in
theorem c112_in (q:ByteArray) (w:World) (hs:q.size≤1048700) (h2:2≤q.size) (hf:(q[0].toNat:Int)=34) (hl:(q[q.size - 1].toNat:Int)=34):
 Calls Tryz.prog 112 #[.string q] w fun e w'=>Is74 q.data.toList e∧Below w.heap.size w w':=by
 have HF:Hid (Lib.IsBuilder 177 5 w.heap.size w.heap.size [] (w.alloc (.cells #[.pointer none,.slice none 0 0] 177))):=Lib.fresh_isBuilder 177 5 w
 have HI:Hid (q.data.toList=34::((q.extract 1 (q.size - 1)).data.toList++[34])):=inner_of q h2 hf hl
 have hz:(q.extract 1 (q.size - 1)).size≤1048700:=by simp;omega
 go_enter Tryz.func112,Tryz.ntmps112
 go_wp2_with fail
 clear hf hl
 generalize q.extract 1 (q.size - 1)=I at*
 go_loopw [6] (fun i wr=>∃ (k:Nat) (t:List UInt8),k≤I.size∧i=.int .i64 k∧t.length≤k∧Hid (I.data.toList.take k=t.flatMap qb)∧Hid (Lib.IsBuilder 177 5 w.heap.size w.heap.size (Lib.byteCells t) wr)∧Below w.heap.size w wr∧w.heap.size+1≤wr.heap.size) (fun i _=>I.size - (intOf i).toNat)
 case atStart=>exact ⟨0,[],Nat.zero_le _,rfl,Nat.le_refl _,rfl,HF,(Below.refl _ _).alloc (Nat.le_refl _) _,by simp⟩
 case round=>
  obtain ⟨k,t,hk,rfl,htk,htl,hbl,hb,hzr⟩:=hrel
  by_cases hlt:k<I.size
  · go_wp2_with fail
    refine (c125 I[k] _).mono ?_
    rintro e w1 ⟨rfl,hw1⟩
    obtain rfl:=hw1.symm
    cases hp:plainB I[k]
    · have HP:Hid (plainB I[k]=false):=hp
      clear hp
      go_wp2_with fail
      refine (c127 _ _ (by simp;omega)).mono ?_
      rintro e w1 ⟨⟨c,ok,rfl,hun⟩,hw1⟩
      obtain rfl:=hw1.symm
      have HD:Hid (I.data.toList=t.flatMap qb++(I.extract k I.size).data.toList):=by rw [← htl.out];exact take_ext I k hk
      cases ok
      · have HU:Hid (Unq q.data.toList [] false):=by
         refine ⟨(fun h=>by cases h),fun _ l e=>?_⟩
         rw [HI.out] at e
         unfold quoteL at e
         simp only [List.cons.injEq,true_and,List.append_cancel_right_eq] at e
         rw [HD.out] at e
         obtain ⟨r,hr,_⟩:=flat_pre e
         have hne:(I.extract k I.size).data.toList=I[k]::I.data.toList.drop (k+1):=by
          rw [ext_list,List.take_of_length_le (by simp),drop_at I k hlt]
         cases r with
         | nil=>rw [hr] at hne;cases hne
         | cons d r=>
          rw [hr,List.flatMap_cons] at hne
          cases hd:plainB d
          · exact hun.2 rfl d _ hd hr
          rw [qb_plain hd] at hne
          simp only [List.cons_append,List.nil_append,List.cons.injEq] at hne
          rw [hne.1,HP.out] at hd
          cases hd
        clear hun
        go_wp2
        go_ret2
        exact ⟨⟨[],false,rfl,HU.out⟩,hb⟩
      have HQ:Hid (plainB c=false∧∃ r,(I.extract k I.size).data.toList=qb c++r):=hun.1 rfl
      clear hun
      have hk3:k+3≤I.size:=by
       obtain ⟨h1,r,h2⟩:=HQ.out
       have:=congrArg List.length h2
       rw [qb_not h1] at this
       simp at this
       omega
      have HT:Hid (I.data.toList.take (k+3)=(t++[c]).flatMap qb):=by
       obtain ⟨h1,r,h2⟩:=HQ.out
       have hl:(t.flatMap qb).length=k:=by rw [← htl.out];simp;omega
       rw [HD.out,h2,← List.append_assoc,List.take_append_of_le_length (by rw [List.length_append,hl,qb_not h1];simp),List.take_of_length_le (by rw [List.length_append,hl,qb_not h1];simp),List.flatMap_append]
       simp [Hid]
      go_wp2_with fail
      refine (c126 w.heap.size w.heap.size (Lib.byteCells t) c.toNat _ hbl.out (by rw [cells_len];omega) (by omega)).mono ?_
      rintro e w3 ⟨rfl,h3,hb3⟩
      have H3:Hid (Lib.IsBuilder 177 5 w.heap.size w.heap.size (Lib.byteCells (t++[c])) w3):=by rw [cells_snoc];exact h3
      have hB3:Below w.heap.size w w3:=hb.trans hb3
      have hz3:w.heap.size+1≤w3.heap.size:=Nat.le_trans hzr hb3.size
      clear h3 hb3
      go_wp2
      go_roundw
      case rel=>exact ⟨k+3,t++[c],hk3,by go_num,by simp;omega,HT,H3,hB3,hz3⟩
      case measure=>simp [intOf];omega
    have HT:Hid (I.data.toList.take (k+1)=(t++[I[k]]).flatMap qb):=by
     rw [take_snoc I k hlt,htl.out,List.flatMap_append];simp [Hid,qb_plain hp]
    clear hp
    go_wp2_with fail
    refine (c126 w.heap.size w.heap.size (Lib.byteCells t) _ _ hbl.out (by rw [cells_len];omega) (by omega)).mono ?_
    rintro e w3 ⟨rfl,h3,hb3⟩
    have H3:Hid (Lib.IsBuilder 177 5 w.heap.size w.heap.size (Lib.byteCells (t++[I[k]])) w3):=by rw [cells_snoc];exact h3
    have hB3:Below w.heap.size w w3:=hb.trans hb3
    have hz3:w.heap.size+1≤w3.heap.size:=Nat.le_trans hzr hb3.size
    clear h3 hb3
    go_wp2
    go_roundw
    case rel=>exact ⟨k+1,t++[I[k]],by omega,by go_num,by simp;omega,HT,H3,hB3,hz3⟩
    case measure=>simp [intOf];omega
  have HU:Hid (Unq q.data.toList t true):=by
   refine ⟨fun _=>?_,(fun h=>by cases h)⟩
   have:=htl.out
   rw [List.take_of_length_le (by simp;omega)] at this
   rw [HI.out,this];rfl
  go_wp2_with fail
  refine (Tryz.Builder_String_any w.heap.size w.heap.size t _ hbl.out (by omega)).mono ?_
  rintro e w4 ⟨rfl,hb4⟩
  go_wp2
  go_ret2
  exact ⟨⟨t,true,rfl,HU.out⟩,hb.trans hb4⟩
set_option maxHeartbeats 1000000 in
theorem c112 (q:ByteArray) (w:World) (hs:q.size≤1048700):
 Calls Tryz.prog 112 #[.string q] w fun e w'=>Is74 q.data.toList e∧Below w.heap.size w w':=by
 by_cases h2:2≤q.size
 · have hz0:0<q.size:=by omega
   have hz1:q.size - 1<q.size:=by omega
   by_cases hf:(q[0].toNat:Int)=34
   · by_cases hl:(q[q.size - 1].toNat:Int)=34
     · exact c112_in q w hs h2 hf hl
     have HU:Hid (Is74 q.data.toList (.returned (.tuple #[.string ⟨#[]⟩,.bool false]))):=by
      refine ⟨[],false,rfl,(fun h=>by cases h),fun _=>not_quote (.inr (.inr fun e=>hl ?_))⟩
      have d0:=drop_at q (q.size - 1) (by omega)
      rw [List.drop_of_length_le (show q.data.toList.length≤q.size - 1+1 by simp;omega)] at d0
      have:q.data.toList=q.data.toList.take (q.size - 1)++[q[q.size - 1]]:=by rw [← d0];exact (List.take_append_drop _ _).symm
      rw [this] at e
      simp at e
      rw [e];rfl
     have e1:((q[q.size - 1].toNat:Int) !=34)=true:=by simpa using hl
     clear hl
     go_enter Tryz.func112,Tryz.ntmps112
     go_wp2
     go_ret2
     exact ⟨HU.out,Below.refl _ _⟩
   have HU:Hid (Is74 q.data.toList (.returned (.tuple #[.string ⟨#[]⟩,.bool false]))):=by
    refine ⟨[],false,rfl,(fun h=>by cases h),fun _=>not_quote (.inr (.inl fun e=>hf ?_))⟩
    have d1:=drop_at q 0 (by omega)
    simp only [List.drop_zero] at d1
    rw [d1] at e
    simp at e
    rw [e];rfl
   have e1:((q[0].toNat:Int) !=34)=true:=by simpa using hf
   clear hf
   go_enter Tryz.func112,Tryz.ntmps112
   go_wp2
   go_ret2
   exact ⟨HU.out,Below.refl _ _⟩
 have HU:Hid (Is74 q.data.toList (.returned (.tuple #[.string ⟨#[]⟩,.bool false]))):=⟨[],false,rfl,(fun h=>by cases h),fun _=>not_quote (.inl (by simp;omega))⟩
 go_enter Tryz.func112,Tryz.ntmps112
 go_wp2
 go_ret2
 exact ⟨HU.out,Below.refl _ _⟩
end Go.Proofs.YtmalddmgdjkgaaaGreatDoor
