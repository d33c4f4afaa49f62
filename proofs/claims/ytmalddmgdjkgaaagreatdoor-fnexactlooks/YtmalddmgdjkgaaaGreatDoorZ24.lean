import Derived.Test.YtmalddmgdjkgaaaGreatDoorT4
import Derived.Test.YtmalddmgdjkgaaaGreatDoorZ06
import Derived.Test.YtmalddmgdjkgaaaGreatDoorZ05
import Derived.Test.YtmalddmgdjkgaaaGreatDoorZ07
import Derived.Deep.RegionHeld3
import Derived.Laws.Cover1
namespace Go.Proofs.YtmalddmgdjkgaaaGreatDoor.G
set_option linter.unusedSimpArgs false
open Go.RowKit
def okM (x:M3):Bool:=nameOk x.nm.data.toList&&nameOk x.tl.data.toList&&decide ((x.ar.size:Int)≤300)
set_option maxHeartbeats 1000000 in
theorem c62 (x:M3) (w:World) (hs:x.le 1048700):
 Calls Tryz.prog 62 #[.agg #[.string x.nm,.string x.tl,.string x.ar]] w fun e w'=>e=.returned (.bool (okM x))∧Below w.heap.size w w':=by
 have HF:Hid (okM x=(nameOk x.nm.data.toList&&nameOk x.tl.data.toList&&decide ((x.ar.size:Int)≤300))):=rfl
 obtain ⟨h1,h2,h3⟩:=hs
 go_enter Tryz.func62,Tryz.ntmps62
 go_wp2_with fail
 refine (c15 _ _ h1).mono ?_
 rintro e w1 ⟨rfl,rfl⟩
 cases hn:nameOk x.nm.data.toList
 · rw [hn] at HF
   go_wp2
   all_goals go_ret
   all_goals exact ⟨ret_bool (by rw [HF.out];simp),(Below.refl _ _).alloc (Nat.le_refl _) _⟩
 rw [hn] at HF
 go_wp2_with fail
 refine (c15 _ _ h2).mono ?_
 rintro e w1 ⟨rfl,rfl⟩
 cases hm:nameOk x.tl.data.toList
 all_goals
  rw [hm] at HF
  go_wp2
  all_goals go_ret
  all_goals exact ⟨ret_bool (by rw [HF.out];simp),(Below.refl _ _).alloc (Nat.le_refl _) _⟩
theorem c62v {x:M3} {v:Bool} (hv:okM x=v) (w:World) (hs:x.le 1048700):
 Calls Tryz.prog 62 #[.agg #[.string x.nm,.string x.tl,.string x.ar]] w fun e w'=>e=.returned (.bool v)∧Below w.heap.size w w':=hv▸c62 x w hs
set_option maxHeartbeats 1000000 in
theorem c113 (x:M3) (w:World) (hs:x.le 1048700):
 Calls Tryz.prog 113 #[.agg #[.string x.nm,.string x.tl,.string x.ar]] w fun e w'=>e=.returned (.bool (okM x))∧Below w.heap.size w w':=by
 have HF:Hid (okM x=(nameOk x.nm.data.toList&&nameOk x.tl.data.toList&&decide ((x.ar.size:Int)≤300))):=rfl
 obtain ⟨h1,h2,h3⟩:=hs
 go_enter Tryz.func113,Tryz.ntmps113
 go_wp2_with fail
 refine (c20 _ _ h1).mono ?_
 rintro e w1 ⟨rfl,rfl⟩
 cases hn:nameOk x.nm.data.toList
 · rw [hn] at HF
   go_wp2
   all_goals go_ret
   all_goals exact ⟨ret_bool (by rw [HF.out];simp),(Below.refl _ _).alloc (Nat.le_refl _) _⟩
 rw [hn] at HF
 go_wp2_with fail
 refine (c20 _ _ h2).mono ?_
 rintro e w1 ⟨rfl,rfl⟩
 cases hm:nameOk x.tl.data.toList
 all_goals
  rw [hm] at HF
  go_wp2
  all_goals go_ret
  all_goals exact ⟨ret_bool (by rw [HF.out];simp),(Below.refl _ _).alloc (Nat.le_refl _) _⟩
theorem c113v {x:M3} {v:Bool} (hv:okM x=v) (w:World) (hs:x.le 1048700):
 Calls Tryz.prog 113 #[.agg #[.string x.nm,.string x.tl,.string x.ar]] w fun e w'=>e=.returned (.bool v)∧Below w.heap.size w w':=hv▸c113 x w hs
theorem c80' (s:ByteArray) (w:World) (hs:s.size≤1048700):
 Calls Tryz.prog 80 #[.string s] w fun e w'=>e=.returned (.string (ofL (quoteL s.data.toList)))∧Below w.heap.size w w':=c80 s w hs
def bodyL (x:M3):List UInt8:=x.nm.data.toList++[32]++x.tl.data.toList++[32]++quoteL x.ar.data.toList
def makeL (x:M3):List UInt8:=[109,97,107,101,32]++bodyL x++[10]
end Go.Proofs.YtmalddmgdjkgaaaGreatDoor.G
namespace Go.Proofs.YtmalddmgdjkgaaaGreatDoor.G
open Go.RowKit
def cst (b:UInt8) (p:List (List UInt8)×List UInt8) (c:UInt8):List (List UInt8)×List UInt8:=if c=b then (p.1++[p.2],[]) else (p.1,p.2++[c])
def cstate (b:UInt8) (l:List UInt8):List (List UInt8)×List UInt8:=l.foldl (cst b) ([],[])
def cutS (b:UInt8) (l:List UInt8):List (List UInt8):=(cstate b l).1++[(cstate b l).2]
theorem cstate_snoc (b:UInt8) (l:List UInt8) (c:UInt8):cstate b (l++[c])=cst b (cstate b l) c:=by simp [cstate]
theorem cstate_len (b:UInt8) (l:List UInt8) (p:List (List UInt8)×List UInt8):(l.foldl (cst b) p).1.length≤p.1.length+l.length:=by
 induction l generalizing p with
 | nil=>simp
 | cons c l ih=>
  have:=ih (cst b p c)
  have h2:(cst b p c).1.length≤p.1.length+1:=by unfold cst;split <;> simp
  simp only [List.foldl_cons,List.length_cons];omega
theorem cstate_le (b:UInt8) (l:List UInt8):(cstate b l).1.length≤l.length:=by have:=cstate_len b l ([],[]);simpa [cstate] using this
def strL (ss:List (List UInt8)):List Value:=ss.map fun l=>.string (ofL l)
theorem strL_snoc (ss:List (List UInt8)) (l:List UInt8):strL (ss++[l])=strL ss++[.string (ofL l)]:=by simp [strL]
def LinesAt (w:World) (g:Nat) (ss:List (List UInt8)):Prop:=g<w.heap.size∧∀ i,i<ss.length→w.cell? ⟨g,i,none⟩=some (.string (ofL (ss.getD i [])))
theorem lines_of_owns {w:World} {base g k cp:Nat} {ss:List (List UInt8)} (h:w.ownsRow base 9 1 (.slice (some ⟨g,0,none⟩) k cp) k (strL ss)) (hl:ss.length=k):LinesAt w g ss:=by
 refine ⟨(h.lt g rfl).2,fun i hi=>?_⟩
 rw [h.cellAt i (by omega)]
 simp [strL,hi]
theorem own_formF {w:World} {base:Nat} {e:TypeId} {size:Nat} {v:Value} {n:Nat} {xs:List Value} (h:w.ownsRow base e size v n xs) (hn:0<n):∃ g cp,v=.slice (some ⟨g,0,none⟩) n cp:=by
 rcases h.2 with ⟨_,h0⟩ | ⟨g,cap,cur,hv,_⟩
 · omega
 exact ⟨g,cap,hv⟩
theorem info9:(Tryz.prog.info? 9).map (fun i=>(i.zero,i.size,i.bytes))=some (some (.string ⟨#[]⟩),1,16):=by kernel_rfl
theorem ext_ofL {s:ByteArray} {l:List UInt8} (h:s.data.toList=l):s=ofL l:=by
 apply ByteArray.ext
 unfold ofL
 rw [← h]
theorem ext_listF (s:ByteArray) (a b:Nat):(s.extract a b).data.toList=(s.data.toList.take b).drop a:=by
 rw [ByteArray.data_extract,Array.toList_extract,List.extract_eq_take_drop,List.drop_take]
def wordOf (l:List UInt8):List UInt8:=l.takeWhile (· !=32)
def restOf (l:List UInt8):List UInt8:=(l.dropWhile (· !=32)).drop 1
theorem word_at {l:List UInt8} {k:Nat} (ha:(l.take k).all (· !=32)=true) (_hk:k≤l.length) (he:k=l.length∨l.getD k 0=32):wordOf l=l.take k∧restOf l=l.drop (k+1):=by
 have h:l.takeWhile (· !=32)=l.take k∧l.dropWhile (· !=32)=l.drop k:=by
  rcases Nat.lt_or_ge k l.length with hlt | hge
  · have hx:l[k]=32:=by
     rcases he with he | he
     · omega
     simpa [hlt] using he
    have hsplit:l=l.take k++l[k]::l.drop (k+1):=by rw [← List.drop_eq_getElem_cons hlt,List.take_append_drop]
    have hall:∀ a∈l.take k,(a !=32)=true:=fun a h=>List.all_eq_true.1 ha a h
    constructor
    · conv=>lhs;rw [hsplit]
      rw [List.takeWhile_append_of_pos hall,hx]
      simp
    conv=>lhs;rw [hsplit]
    rw [List.dropWhile_append_of_pos hall,hx]
    rw [List.drop_eq_getElem_cons hlt,hx]
    simp
  rw [List.take_of_length_le hge] at ha
  rw [List.take_of_length_le hge,List.drop_of_length_le hge]
  have hall:∀ a∈l,(a !=32)=true:=fun a h=>List.all_eq_true.1 ha a h
  have:=List.takeWhile_append_of_pos (l₂:=[]) hall
  have h2:=List.dropWhile_append_of_pos (l₂:=[]) hall
  simp only [List.append_nil,List.takeWhile_nil,List.dropWhile_nil] at this h2
  exact ⟨this,h2⟩
 refine ⟨h.1,?_⟩
 unfold restOf
 rw [h.2,List.drop_drop]
end Go.Proofs.YtmalddmgdjkgaaaGreatDoor.G
namespace Go.Proofs.YtmalddmgdjkgaaaGreatDoor.G
open Go.RowKit
def restN (l:List UInt8):Nat→List UInt8
 | 0=>l
 | k+1=>restOf (restN l k)
def wordsN (l:List UInt8) (k:Nat):List (List UInt8):=(List.range k).map fun j=>wordOf (restN l j)
theorem wordsN_succ (l:List UInt8) (k:Nat):wordsN l (k+1)=wordsN l k++[wordOf (restN l k)]:=by simp [wordsN,List.range_succ]
theorem rest_small (l:List UInt8):(wordOf l).length≤l.length∧(restOf l).length≤l.length:=by
 unfold wordOf restOf
 refine ⟨(List.takeWhile_sublist _).length_le,?_⟩
 have:=(List.dropWhile_sublist (l:=l) (· !=32)).length_le
 simp only [List.length_drop];omega
theorem restN_len (l:List UInt8) (k:Nat):(restN l k).length≤l.length:=by
 induction k with
 | zero=>exact Nat.le_refl _
 | succ k ih=>exact Nat.le_trans (rest_small _).2 ih
set_option maxHeartbeats 2000000 in
set_option maxRecDepth 100000 in
theorem c59w (s:ByteArray) (w:World) (hs:s.size≤1048700):
 Calls Tryz.prog 59 #[.string s,.int .i64 3] w fun e w'=>(∃ g cp,e=.returned (.tuple #[.slice (some ⟨g,0,none⟩) 3 cp,.string (ofL (restN s.data.toList 3))])∧w.heap.size≤g∧LinesAt w' g (wordsN s.data.toList 3))∧Below w.heap.size w w':=by
 obtain ⟨i0,hi,hz0,hz1,hz2⟩:=info_parts info9
 have hlen:s.data.toList.length=s.size:=by simp
 go_enter Tryz.func59,Tryz.ntmps59
 go_wp2_with fail
 go_loopw [0,6,7] (fun sv v i wr=>∃ (m:Nat) (t:ByteArray) (ss:List (List UInt8)),m≤3∧i=.int .i64 m∧sv=.string t∧wr.ownsRow w.heap.size 9 1 v m (strL ss)∧Hid (t=ofL (restN s.data.toList m)∧ss=wordsN s.data.toList m)∧Below w.heap.size w wr∧w.heap.size+1≤wr.heap.size) (fun _ _ i _=>3 - (intOf i).toNat)
 case atStart=>exact ⟨0,s,[],Nat.zero_le _,rfl,rfl,World.ownsRow_lit _ #[] 0 (Nat.le_refl _) (Nat.zero_le _) rfl,⟨rfl,rfl⟩,(Below.refl _ _).alloc (Nat.le_refl _) _,by simp⟩
 case round=>
  obtain ⟨m,t,ss,hm,rfl,rfl,hown,hrel,hb,hz⟩:=hrel
  by_cases hlt:m<3
  · obtain ⟨hT,rfl⟩:=hrel.out
    have hts:t.size≤1048700:=by rw [hT,ofL_size];have:=restN_len s.data.toList m;omega
    have hTl:t.data.toList=restN s.data.toList m:=by rw [hT];simp [ofL]
    have HTL:Hid (t.data.toList=restN s.data.toList m):=hTl
    have htlen:t.data.toList.length=t.size:=by simp
    clear hT hTl
    clear hrel
    go_wp2_with fail
    go_loop [8] (fun n=>∃ k:Nat,k≤t.size∧n=.int .i64 k∧Hid ((t.data.toList.take k).all (· !=32)=true)) (fun n=>t.size - (intOf n).toNat)
    case atStart=>exact ⟨0,Nat.zero_le _,rfl,rfl⟩
    case round=>
     obtain ⟨k,hk,rfl,ha⟩:=hrel
     by_cases hkt:k<t.size
     · have hkt':(k:Int)<(t.size:Int):=by omega
       by_cases h32:t[k]=32
       · have e1:((t[k].toNat:Int) !=32)=false:=by rw [h32];rfl
         obtain ⟨hw1,hw2⟩:=word_at (l:=t.data.toList) ha.out (by omega) (.inr (by simp [hkt];exact h32))
         have HW:Hid (t.extract 0 k=ofL (wordOf t.data.toList)):=ext_ofL (by rw [ext_listF,hw1];rfl)
         have HR:Hid (t.extract (k+1) t.size=ofL (restOf t.data.toList)):=ext_ofL (by rw [ext_listF,hw2,List.take_of_length_le (by omega)])
         clear h32 hw1 hw2
         go_wp2_with (at_builtin;refine wpList_append_own _ rfl _ _ 116 rfl w.heap.size 9 i0 (.string ⟨#[]⟩) 1 16 Tryz.underlying116 hi hz0 hz1 hz2 rfl (by decide) _ _ _ rfl (hown.alloc _) ⟨wr.heap.size,0,none⟩ 1 1 [_] rfl rfl (cell_one_new _ _ _) (by intro u hu;simp at hu;subst hu;rfl) (by unfold maxLen;omega) (by omega) (by simp;omega) ?_;intro v' w2 hown' hgrow _)
         go_roundw
         case rel=>
          have hB2:Below w.heap.size w w2:=(hb.alloc hb.size _).grown hgrow (by simp;omega) (fun j hj=>(hown.lt j hj).1)
          refine ⟨m+1,_,wordsN s.data.toList (m+1),by omega,by go_num,rfl,?_,⟨by rw [HR.out,HTL.out];rfl,rfl⟩,hB2,by have:=hgrow.size;simp at this;omega⟩
          rw [wordsN_succ,strL_snoc,← HTL.out,← HW.out]
          exact hown'
         case measure=>simp [intOf];omega
       have e1:((t[k].toNat:Int) !=32)=true:=by
        simp only [bne_iff_ne]
        intro e
        exact h32 (UInt8.toNat_inj.1 (by have:t[k].toNat=32:=by omega
                                         rw [this];rfl))
       have HA:Hid ((t.data.toList.take (k+1)).all (· !=32)=true):=by
        rw [take_snoc t k hkt,List.all_append,ha.out]
        simp [Hid,h32]
       clear h32
       go_wp2
       go_round
       case rel=>exact ⟨k+1,by omega,by go_num,HA⟩
       case measure=>simp [intOf];omega
     obtain ⟨hw1,hw2⟩:=word_at (l:=t.data.toList) ha.out (by omega) (.inl (by omega))
     have HW:Hid (t.extract 0 k=ofL (wordOf t.data.toList)):=ext_ofL (by rw [ext_listF,hw1];rfl)
     have HR:Hid (t.extract k t.size=ofL (restOf t.data.toList)):=ext_ofL (by rw [ext_listF,hw2,List.take_of_length_le (by omega),List.drop_of_length_le (by omega),List.drop_of_length_le (by omega)])
     clear hw1 hw2
     go_wp2_with (at_builtin;refine wpList_append_own _ rfl _ _ 116 rfl w.heap.size 9 i0 (.string ⟨#[]⟩) 1 16 Tryz.underlying116 hi hz0 hz1 hz2 rfl (by decide) _ _ _ rfl (hown.alloc _) ⟨wr.heap.size,0,none⟩ 1 1 [_] rfl rfl (cell_one_new _ _ _) (by intro u hu;simp at hu;subst hu;rfl) (by unfold maxLen;omega) (by omega) (by simp;omega) ?_;intro v' w2 hown' hgrow _)
     go_roundw
     case rel=>
      have hB2:Below w.heap.size w w2:=(hb.alloc hb.size _).grown hgrow (by simp;omega) (fun j hj=>(hown.lt j hj).1)
      refine ⟨m+1,_,wordsN s.data.toList (m+1),by omega,by go_num,rfl,?_,⟨by rw [HR.out,HTL.out];rfl,rfl⟩,hB2,by have:=hgrow.size;simp at this;omega⟩
      rw [wordsN_succ,strL_snoc,← HTL.out,← HW.out]
      exact hown'
     case measure=>simp [intOf];omega
  obtain rfl:m=3:=by omega
  obtain ⟨rfl,rfl⟩:=hrel.out
  clear hrel
  obtain ⟨g,cp,hvv⟩:=own_formF hown (by omega)
  subst hvv
  go_wp2
  go_ret2
  exact ⟨⟨g,cp,rfl,(hown.lt g rfl).1,lines_of_owns hown rfl⟩,hb⟩
end Go.Proofs.YtmalddmgdjkgaaaGreatDoor.G
