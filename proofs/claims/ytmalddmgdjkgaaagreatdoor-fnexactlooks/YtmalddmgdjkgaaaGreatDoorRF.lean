import Derived.Test.YtmalddmgdjkgaaaGreatDoorT8
namespace Go.Proofs.YtmalddmgdjkgaaaGreatDoor
open Go.RowKit
def cst (b:UInt8) (p:List (List UInt8)×List UInt8) (c:UInt8):List (List UInt8)×List UInt8:=if c=b then (p.1++[p.2],[]) else (p.1,p.2++[c])
def cstate (b:UInt8) (l:List UInt8):List (List UInt8)×List UInt8:=l.foldl (cst b) ([],[])
def cutS (b:UInt8) (l:List UInt8):List (List UInt8):=(cstate b l).1++[(cstate b l).2]
theorem cstate_snoc (b:UInt8) (l:List UInt8) (c:UInt8):cstate b (l++[c])=cst b (cstate b l) c:=by simp [cstate]
theorem cstate_len (b:UInt8) (l:List UInt8) (p:List (List UInt8)×List UInt8):(l.foldl (cst b) p).1.length≤p.1.length+l.length:=by
 induction l generalizing p with
 | nil=>simp
 | cons c l ih=>
  have:=ih (cst b p c)
  have h2:(cst b p c).1.length≤p.1.length+1:=by unfold cst;split <;> simp
  simp only [List.foldl_cons,List.length_cons];omega
theorem cstate_le (b:UInt8) (l:List UInt8):(cstate b l).1.length≤l.length:=by have:=cstate_len b l ([],[]);simpa [cstate] using this
def strL (ss:List (List UInt8)):List Value:=ss.map fun l=>.string (ofL l)
theorem strL_snoc (ss:List (List UInt8)) (l:List UInt8):strL (ss++[l])=strL ss++[.string (ofL l)]:=by simp [strL]
def LinesAt (w:World) (g:Nat) (ss:List (List UInt8)):Prop:=g<w.heap.size∧∀ i,i<ss.length→w.cell? ⟨g,i,none⟩=some (.string (ofL (ss.getD i [])))
theorem lines_below {w w':World} {g:Nat} {ss:List (List UInt8)} (h:LinesAt w g ss) (hb:Below w.heap.size w w'):LinesAt w' g ss:=
 ⟨Nat.lt_of_lt_of_le h.1 hb.size,fun i hi=>by rw [hb.cell (by exact h.1)];exact h.2 i hi⟩
theorem lines_of_owns {w:World} {base g k cp:Nat} {ss:List (List UInt8)} (h:w.ownsRow base 9 1 (.slice (some ⟨g,0,none⟩) k cp) k (strL ss)) (hl:ss.length=k):LinesAt w g ss:=by
 refine ⟨(h.lt g rfl).2,fun i hi=>?_⟩
 rw [h.cellAt i (by omega)]
 simp [strL,hi]
theorem own_formF {w:World} {base:Nat} {e:TypeId} {size:Nat} {v:Value} {n:Nat} {xs:List Value} (h:w.ownsRow base e size v n xs) (hn:0<n):∃ g cp,v=.slice (some ⟨g,0,none⟩) n cp:=by
 rcases h.2 with ⟨_,h0⟩ | ⟨g,cap,cur,hv,_⟩
 · omega
 exact ⟨g,cap,hv⟩
theorem info9:(Tryz.prog.info? 9).map (fun i=>(i.zero,i.size,i.bytes))=some (some (.string ⟨#[]⟩),1,16):=by kernel_rfl
theorem ext_ofL {s:ByteArray} {l:List UInt8} (h:s.data.toList=l):s=ofL l:=by
 apply ByteArray.ext
 unfold ofL
 rw [← h]
theorem ext_listF (s:ByteArray) (a b:Nat):(s.extract a b).data.toList=(s.data.toList.take b).drop a:=by
 rw [ByteArray.data_extract,Array.toList_extract,List.extract_eq_take_drop,List.drop_take]
set_option maxHeartbeats 2000000 in
set_option maxRecDepth 100000 in
theorem c58 (s:ByteArray) (b:UInt8) (w:World) (hs:s.size≤1048700):
 Calls Tryz.prog 58 #[.string s,.int .u8 b.toNat] w fun e w'=>(∃ g cp,e=.returned (.slice (some ⟨g,0,none⟩) (cutS b s.data.toList).length cp)∧w.heap.size≤g∧LinesAt w' g (cutS b s.data.toList))∧Below w.heap.size w w':=by
 obtain ⟨i0,hi,hz0,hz1,hz2⟩:=info_parts info9
 have hlen:s.data.toList.length=s.size:=by simp
 go_enter Tryz.func58,Tryz.ntmps58
 go_wp2_with fail
 go_loopw [5,6,7] (fun v fr i wr=>∃ (k f:Nat),k≤s.size∧f≤k∧i=.int .i64 k∧fr=.int .i64 f∧wr.ownsRow w.heap.size 9 1 v (cstate b (s.data.toList.take k)).1.length (strL (cstate b (s.data.toList.take k)).1)∧Hid ((s.data.toList.take k).drop f=(cstate b (s.data.toList.take k)).2)∧Below w.heap.size w wr∧w.heap.size+1≤wr.heap.size) (fun _ _ i _=>s.size - (intOf i).toNat)
 case atStart=>exact ⟨0,0,Nat.zero_le _,Nat.le_refl _,rfl,rfl,World.ownsRow_lit _ #[] 0 (Nat.le_refl _) (Nat.zero_le _) rfl,rfl,(Below.refl _ _).alloc (Nat.le_refl _) _,by simp⟩
 case round=>
  obtain ⟨k,f,hk,hf,rfl,rfl,hown,hcur,hb,hz⟩:=hrel
  have hL:(cstate b (s.data.toList.take k)).1.length≤k:=by
   have:=cstate_le b (s.data.toList.take k)
   rw [List.length_take] at this;omega
  by_cases hlt:k<s.size
  · have HS:Hid (cstate b (s.data.toList.take (k+1))=cst b (cstate b (s.data.toList.take k)) s[k]):=by rw [take_snoc s k hlt,cstate_snoc];rfl
    have HE:Hid (s.extract f k=ofL (cstate b (s.data.toList.take k)).2):=ext_ofL (by rw [ext_listF];exact hcur.out)
    by_cases hc:s[k]=b
    · have e1:((s[k].toNat:Int)==(b.toNat:Int))=true:=by rw [hc];simp
      have HC:Hid (cst b (cstate b (s.data.toList.take k)) s[k]=((cstate b (s.data.toList.take k)).1++[(cstate b (s.data.toList.take k)).2],[])):=by unfold cst;rw [if_pos hc];rfl
      have HD:Hid ((s.data.toList.take (k+1)).drop (k+1)=[]):=List.drop_of_length_le (by simp;omega)
      clear hc hcur
      generalize cstate b (s.data.toList.take k)=st at*
      go_wp2_with (at_builtin;refine wpList_append_own _ rfl _ _ 116 rfl w.heap.size 9 i0 (.string ⟨#[]⟩) 1 16 Tryz.underlying116 hi hz0 hz1 hz2 rfl (by decide) _ _ _ rfl (hown.alloc _) ⟨wr.heap.size,0,none⟩ 1 1 [_] rfl rfl (cell_one_new _ _ _) (by intro u hu;simp at hu;subst hu;rfl) (by unfold maxLen;omega) (by omega) (by simp;omega) ?_;intro v' w2 hown' hgrow _)
      go_roundw
      case rel=>
       have hB2:Below w.heap.size w w2:=(hb.alloc hb.size _).grown hgrow (by simp;omega) (fun j hj=>(hown.lt j hj).1)
       refine ⟨k+1,k+1,by omega,Nat.le_refl _,by go_num,by go_num,?_,?_,hB2,by have:=hgrow.size;simp at this;omega⟩
       · rw [HS.out,HC.out,List.length_append,strL_snoc,← HE.out]
         exact hown'
       rw [HS.out,HC.out];exact HD.out
      case measure=>simp [intOf];omega
    have e1:((s[k].toNat:Int)==(b.toNat:Int))=false:=by
     simp only [beq_eq_false_iff_ne]
     intro e
     exact hc (UInt8.toNat_inj.1 (by omega))
    have HC:Hid (cst b (cstate b (s.data.toList.take k)) s[k]=((cstate b (s.data.toList.take k)).1,(cstate b (s.data.toList.take k)).2++[s[k]])):=by unfold cst;rw [if_neg hc];rfl
    have HD:Hid ((s.data.toList.take (k+1)).drop f=(s.data.toList.take k).drop f++[s[k]]):=by rw [take_snoc s k hlt,List.drop_append_of_le_length (by simp;omega)];rfl
    clear hc
    generalize cstate b (s.data.toList.take k)=st at*
    go_wp2
    go_roundw
    case rel=>
     refine ⟨k+1,f,by omega,by omega,by go_num,rfl,?_,?_,hb,hz⟩
     · rw [HS.out,HC.out];exact hown
     rw [HS.out,HC.out,HD.out,hcur.out];rfl
    case measure=>simp [intOf];omega
  have HK:Hid (s.data.toList.take k=s.data.toList):=List.take_of_length_le (by omega)
  have HE:Hid (s.extract f s.size=ofL (cstate b (s.data.toList.take k)).2):=ext_ofL (by rw [ext_listF,← show k=s.size by omega];exact hcur.out)
  have HCU:Hid (cutS b s.data.toList=(cstate b (s.data.toList.take k)).1++[(cstate b (s.data.toList.take k)).2]):=by rw [HK.out];rfl
  clear hcur
  generalize cstate b (s.data.toList.take k)=st at*
  go_wp2_with (at_builtin;refine wpList_append_own _ rfl _ _ 116 rfl w.heap.size 9 i0 (.string ⟨#[]⟩) 1 16 Tryz.underlying116 hi hz0 hz1 hz2 rfl (by decide) _ _ _ rfl (hown.alloc _) ⟨wr.heap.size,0,none⟩ 1 1 [_] rfl rfl (cell_one_new _ _ _) (by intro u hu;simp at hu;subst hu;rfl) (by unfold maxLen;omega) (by omega) (by simp;omega) ?_;intro v' w2 hown' hgrow _;obtain ⟨g,cp,hvv⟩:=own_formF hown' (by omega);subst hvv)
  go_ret
  have hB2:Below w.heap.size w w2:=(hb.alloc hb.size _).grown hgrow (by simp;omega) (fun j hj=>(hown.lt j hj).1)
  have ho2:w2.ownsRow w.heap.size 9 1 (.slice (some ⟨g,0,none⟩) (st.1.length+1) cp) (st.1.length+1) (strL (cutS b s.data.toList)):=by
   rw [HCU.out,strL_snoc,← HE.out];exact hown'
  have hlc:(cutS b s.data.toList).length=st.1.length+1:=by rw [HCU.out];simp
  refine ⟨⟨g,cp,by rw [hlc];rfl,(ho2.lt g rfl).1,lines_of_owns ho2 hlc⟩,hB2⟩
def wordOf (l:List UInt8):List UInt8:=l.takeWhile (· !=32)
def restOf (l:List UInt8):List UInt8:=(l.dropWhile (· !=32)).drop 1
theorem word_at {l:List UInt8} {k:Nat} (ha:(l.take k).all (· !=32)=true) (_hk:k≤l.length) (he:k=l.length∨l.getD k 0=32):wordOf l=l.take k∧restOf l=l.drop (k+1):=by
 have h:l.takeWhile (· !=32)=l.take k∧l.dropWhile (· !=32)=l.drop k:=by
  rcases Nat.lt_or_ge k l.length with hlt | hge
  · have hx:l[k]=32:=by
     rcases he with he | he
     · omega
     simpa [hlt] using he
    have hsplit:l=l.take k++l[k]::l.drop (k+1):=by rw [← List.drop_eq_getElem_cons hlt,List.take_append_drop]
    have hall:∀ a∈l.take k,(a !=32)=true:=fun a h=>List.all_eq_true.1 ha a h
    constructor
    · conv=>lhs;rw [hsplit]
      rw [List.takeWhile_append_of_pos hall,hx]
      simp
    conv=>lhs;rw [hsplit]
    rw [List.dropWhile_append_of_pos hall,hx]
    rw [List.drop_eq_getElem_cons hlt,hx]
    simp
  rw [List.take_of_length_le hge] at ha
  rw [List.take_of_length_le hge,List.drop_of_length_le hge]
  have hall:∀ a∈l,(a !=32)=true:=fun a h=>List.all_eq_true.1 ha a h
  have:=List.takeWhile_append_of_pos (l₂:=[]) hall
  have h2:=List.dropWhile_append_of_pos (l₂:=[]) hall
  simp only [List.append_nil,List.takeWhile_nil,List.dropWhile_nil] at this h2
  exact ⟨this,h2⟩
 refine ⟨h.1,?_⟩
 unfold restOf
 rw [h.2,List.drop_drop]
set_option maxHeartbeats 2000000 in
set_option maxRecDepth 100000 in
theorem c59 (s:ByteArray) (w:World) (hs:s.size≤1048700):
 Calls Tryz.prog 59 #[.string s,.int .i64 1] w fun e w'=>(∃ g cp,e=.returned (.tuple #[.slice (some ⟨g,0,none⟩) 1 cp,.string (ofL (restOf s.data.toList))])∧w.heap.size≤g∧LinesAt w' g [wordOf s.data.toList])∧Below w.heap.size w w':=by
 obtain ⟨i0,hi,hz0,hz1,hz2⟩:=info_parts info9
 have hlen:s.data.toList.length=s.size:=by simp
 go_enter Tryz.func59,Tryz.ntmps59
 go_wp2_with fail
 go_loopw [0,6,7] (fun sv v i wr=>∃ (m:Nat) (t:ByteArray) (ss:List (List UInt8)),m≤1∧i=.int .i64 m∧sv=.string t∧wr.ownsRow w.heap.size 9 1 v m (strL ss)∧Hid ((m=0→t=s∧ss=[])∧(m=1→t=ofL (restOf s.data.toList)∧ss=[wordOf s.data.toList]))∧Below w.heap.size w wr∧w.heap.size+1≤wr.heap.size) (fun _ _ i _=>1 - (intOf i).toNat)
 case atStart=>exact ⟨0,s,[],Nat.zero_le _,rfl,rfl,World.ownsRow_lit _ #[] 0 (Nat.le_refl _) (Nat.zero_le _) rfl,⟨fun _=>⟨rfl,rfl⟩,fun h=>by omega⟩,(Below.refl _ _).alloc (Nat.le_refl _) _,by simp⟩
 case round=>
  obtain ⟨m,t,ss,hm,rfl,rfl,hown,hrel,hb,hz⟩:=hrel
  by_cases hlt:m<1
  · obtain rfl:m=0:=by omega
    obtain ⟨rfl,rfl⟩:=hrel.out.1 rfl
    clear hrel
    go_wp2_with fail
    go_loop [8] (fun n=>∃ k:Nat,k≤t.size∧n=.int .i64 k∧Hid ((t.data.toList.take k).all (· !=32)=true)) (fun n=>t.size - (intOf n).toNat)
    case atStart=>exact ⟨0,Nat.zero_le _,rfl,rfl⟩
    case round=>
     obtain ⟨k,hk,rfl,ha⟩:=hrel
     by_cases hkt:k<t.size
     · have hkt':(k:Int)<(t.size:Int):=by omega
       by_cases h32:t[k]=32
       · have e1:((t[k].toNat:Int) !=32)=false:=by rw [h32];rfl
         obtain ⟨hw1,hw2⟩:=word_at (l:=t.data.toList) ha.out (by omega) (.inr (by simp [hkt];exact h32))
         have HW:Hid (t.extract 0 k=ofL (wordOf t.data.toList)):=ext_ofL (by rw [ext_listF,hw1];rfl)
         have HR:Hid (t.extract (k+1) t.size=ofL (restOf t.data.toList)):=ext_ofL (by rw [ext_listF,hw2,List.take_of_length_le (by omega)])
         clear h32 hw1 hw2
         go_wp2_with (at_builtin;refine wpList_append_own _ rfl _ _ 116 rfl w.heap.size 9 i0 (.string ⟨#[]⟩) 1 16 Tryz.underlying116 hi hz0 hz1 hz2 rfl (by decide) _ _ _ rfl (hown.alloc _) ⟨wr.heap.size,0,none⟩ 1 1 [_] rfl rfl (cell_one_new _ _ _) (by intro u hu;simp at hu;subst hu;rfl) (by unfold maxLen;omega) (by omega) (by simp;omega) ?_;intro v' w2 hown' hgrow _)
         go_roundw
         case rel=>
          have hB2:Below w.heap.size w w2:=(hb.alloc hb.size _).grown hgrow (by simp;omega) (fun j hj=>(hown.lt j hj).1)
          refine ⟨1,_,[wordOf t.data.toList],Nat.le_refl _,by go_num,rfl,?_,⟨fun h=>by omega,fun _=>⟨HR.out,rfl⟩⟩,hB2,by have:=hgrow.size;simp at this;omega⟩
          show w2.ownsRow w.heap.size 9 1 _ 1 [.string (ofL (wordOf t.data.toList))]
          rw [← HW.out]
          exact hown'
         case measure=>simp [intOf]
       have e1:((t[k].toNat:Int) !=32)=true:=by
        simp only [bne_iff_ne]
        intro e
        exact h32 (UInt8.toNat_inj.1 (by have:t[k].toNat=32:=by omega
                                         rw [this];rfl))
       have HA:Hid ((t.data.toList.take (k+1)).all (· !=32)=true):=by
        rw [take_snoc t k hkt,List.all_append,ha.out]
        simp [Hid,h32]
       clear h32
       go_wp2
       go_round
       case rel=>exact ⟨k+1,by omega,by go_num,HA⟩
       case measure=>simp [intOf];omega
     obtain ⟨hw1,hw2⟩:=word_at (l:=t.data.toList) ha.out (by omega) (.inl (by omega))
     have HW:Hid (t.extract 0 k=ofL (wordOf t.data.toList)):=ext_ofL (by rw [ext_listF,hw1];rfl)
     have HR:Hid (t.extract k t.size=ofL (restOf t.data.toList)):=ext_ofL (by rw [ext_listF,hw2,List.take_of_length_le (by omega),List.drop_of_length_le (by omega),List.drop_of_length_le (by omega)])
     clear hw1 hw2
     go_wp2_with (at_builtin;refine wpList_append_own _ rfl _ _ 116 rfl w.heap.size 9 i0 (.string ⟨#[]⟩) 1 16 Tryz.underlying116 hi hz0 hz1 hz2 rfl (by decide) _ _ _ rfl (hown.alloc _) ⟨wr.heap.size,0,none⟩ 1 1 [_] rfl rfl (cell_one_new _ _ _) (by intro u hu;simp at hu;subst hu;rfl) (by unfold maxLen;omega) (by omega) (by simp;omega) ?_;intro v' w2 hown' hgrow _)
     go_roundw
     case rel=>
      have hB2:Below w.heap.size w w2:=(hb.alloc hb.size _).grown hgrow (by simp;omega) (fun j hj=>(hown.lt j hj).1)
      refine ⟨1,_,[wordOf t.data.toList],Nat.le_refl _,by go_num,rfl,?_,⟨fun h=>by omega,fun _=>⟨HR.out,rfl⟩⟩,hB2,by have:=hgrow.size;simp at this;omega⟩
      show w2.ownsRow w.heap.size 9 1 _ 1 [.string (ofL (wordOf t.data.toList))]
      rw [← HW.out]
      exact hown'
     case measure=>simp [intOf]
  obtain rfl:m=1:=by omega
  obtain ⟨rfl,rfl⟩:=hrel.out.2 rfl
  clear hrel
  obtain ⟨g,cp,hvv⟩:=own_formF hown (by omega)
  subst hvv
  go_wp2
  go_ret2
  exact ⟨⟨g,cp,rfl,(hown.lt g rfl).1,lines_of_owns hown rfl⟩,hb⟩
end Go.Proofs.YtmalddmgdjkgaaaGreatDoor
