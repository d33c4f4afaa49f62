import Derived.Test.YthfmmimmfcnhmaaGreatDoorT5
import Derived.Test.YthfmmimmfcnhmaaGreatDoorZ07
set_option maxHeartbeats 8000000
set_option maxRecDepth 100000
namespace Go.Proofs.YthfmmimmfcnhmaaGreatDoor.G
open Proofs.Tryz
set_option linter.unusedSimpArgs false
open Go.RowKit
theorem c149 (x:M3) (w:World) (hs:x.le 1048700):
 Calls prog 149 #[.agg #[.string x.nm,.string x.tl,.string x.ar]] w fun e w'=>e=.returned (.bool (okM x))/\Below w.heap.size w w':=by
 have HF:Hid (okM x=(nameOk x.nm.data.toList&&nameOk x.tl.data.toList&&decide ((x.ar.size:Int)<=300))):=rfl
 obtain ⟨h1,h2,h3⟩:=hs
 go_enter func149,ntmps149
 go_wp2_with fail
 refine (c20 _ _ h1).mono ?_
 rintro e w1 ⟨rfl,rfl⟩
 cases hn:nameOk x.nm.data.toList
 · rw [hn] at HF
   go_wp2
   all_goals go_ret
   all_goals exact ⟨ret_bool (by rw [HF.out];simp),(Below.refl _ _).alloc (Nat.le_refl _) _⟩
 rw [hn] at HF
 go_wp2_with fail
 refine (c20 _ _ h2).mono ?_
 rintro e w1 ⟨rfl,rfl⟩
 cases hm:nameOk x.tl.data.toList
 all_goals
  rw [hm] at HF
  go_wp2
  all_goals go_ret
  all_goals exact ⟨ret_bool (by rw [HF.out];simp),(Below.refl _ _).alloc (Nat.le_refl _) _⟩
theorem c149v {x:M3} {v:Bool} (hv:okM x=v) (w:World) (hs:x.le 1048700):
 Calls prog 149 #[.agg #[.string x.nm,.string x.tl,.string x.ar]] w fun e w'=>e=.returned (.bool v)/\Below w.heap.size w w':=hv▸c149 x w hs
theorem c112' (s:ByteArray) (w:World) (hs:s.size<=1048700):
 Calls prog 112 #[.string s] w fun e w'=>e=.returned (.string (ofL (quoteL s.data.toList)))/\Below w.heap.size w w':=c112 s w hs
def bodyL (x:M3):List UInt8:=x.nm.data.toList++[32]++x.tl.data.toList++[32]++quoteL x.ar.data.toList
def makeL (x:M3):List UInt8:=[109,97,107,101,32]++bodyL x++[10]
theorem own_formF {w:World} {base:Nat} {e:TypeId} {size:Nat} {v:Value} {n:Nat} {xs:List Value} (h:w.ownsRow base e size v n xs) (hn:0<n):∃ g cp,v=.slice (some ⟨g,0,none⟩) n cp:=by
 rcases h.2 with ⟨_,h0⟩ | ⟨g,cap,cur,hv,_⟩
 · omega
 exact ⟨g,cap,hv⟩
theorem ext_listF (s:ByteArray) (a b:Nat):(s.extract a b).data.toList=(s.data.toList.take b).drop a:=by
 rw [ByteArray.data_extract,Array.toList_extract,List.extract_eq_take_drop,List.drop_take]
def restN (l:List UInt8):Nat->List UInt8
 | 0=>l
 | k+1=>restOf (restN l k)
def wordsN (l:List UInt8) (k:Nat):List (List UInt8):=(List.range k).map fun j=>wordOf (restN l j)
theorem wordsN_succ (l:List UInt8) (k:Nat):wordsN l (k+1)=wordsN l k++[wordOf (restN l k)]:=by simp [wordsN,List.range_succ]
theorem rest_small (l:List UInt8):(wordOf l).length<=l.length/\(restOf l).length<=l.length:=by
 unfold wordOf restOf
 refine ⟨(List.takeWhile_sublist _).length_le,?_⟩
 have:=(List.dropWhile_sublist (l:=l) (· !=32)).length_le
 simp only [List.length_drop];omega
theorem restN_len (l:List UInt8) (k:Nat):(restN l k).length<=l.length:=by
 induction k with
 | zero=>exact Nat.le_refl _
 | succ k ih=>exact Nat.le_trans (rest_small _).2 ih
theorem c80w (s:ByteArray) (w:World) (hs:s.size<=1048700):
 Calls prog 80 #[.string s,.int .i64 3] w fun e w'=>(∃ g cp,e=.returned (.tuple #[.slice (some ⟨g,0,none⟩) 3 cp,.string (ofL (restN s.data.toList 3))])/\w.heap.size<=g/\LinesAt w' g (wordsN s.data.toList 3))/\Below w.heap.size w w':=by
 obtain ⟨i0,hi,hz0,hz1,hz2⟩:=info_parts info9
 have hlen:s.data.toList.length=s.size:=by simp
 go_enter func80,ntmps80
 go_wp2_with fail
 go_loopw [0,6,7] (fun sv v i wr=>∃ (m:Nat) (t:ByteArray) (ss:List (List UInt8)),m<=3/\i=.int .i64 m/\sv=.string t/\wr.ownsRow w.heap.size 9 1 v m (strL ss)/\Hid (t=ofL (restN s.data.toList m)/\ss=wordsN s.data.toList m)/\Below w.heap.size w wr/\w.heap.size+1<=wr.heap.size) (fun _ _ i _=>3 - (intOf i).toNat)
 case atStart=>exact ⟨0,s,[],Nat.zero_le _,rfl,rfl,World.ownsRow_lit _ #[] 0 (Nat.le_refl _) (Nat.zero_le _) rfl,⟨rfl,rfl⟩,(Below.refl _ _).alloc (Nat.le_refl _) _,by simp⟩
 obtain ⟨m,t,ss,hm,rfl,rfl,hown,hrel,hb,hz⟩:=hrel
 by_cases hlt:m<3
 rotate_left
 · obtain rfl:m=3:=by omega
   obtain ⟨rfl,rfl⟩:=hrel.out
   clear hrel
   obtain ⟨g,cp,hvv⟩:=own_formF hown (by omega)
   subst hvv
   go_wp2
   go_ret2
   exact ⟨⟨g,cp,rfl,(hown.lt g rfl).1,lines_of_owns hown rfl⟩,hb⟩
 obtain ⟨hT,rfl⟩:=hrel.out
 have hts:t.size<=1048700:=by rw [hT,ofL_size];have:=restN_len s.data.toList m;omega
 have hTl:t.data.toList=restN s.data.toList m:=by rw [hT];simp [ofL]
 have HTL:Hid (t.data.toList=restN s.data.toList m):=hTl
 have htlen:t.data.toList.length=t.size:=by simp
 clear hT hTl
 clear hrel
 go_wp2_with fail
 go_loop [8] (fun n=>∃ k:Nat,k<=t.size/\n=.int .i64 k/\Hid ((t.data.toList.take k).all (· !=32)=true)) (fun n=>t.size - (intOf n).toNat)
 case atStart=>exact ⟨0,Nat.zero_le _,rfl,rfl⟩
 obtain ⟨k,hk,rfl,ha⟩:=hrel
 by_cases hkt:k<t.size
 rotate_left
 · obtain ⟨hw1,hw2⟩:=word_at (l:=t.data.toList) ha.out (by omega) (.inl (by omega))
   have HW:Hid (t.extract 0 k=ofL (wordOf t.data.toList)):=ext_ofL (by rw [ext_listF,hw1];rfl)
   have HR:Hid (t.extract k t.size=ofL (restOf t.data.toList)):=ext_ofL (by rw [ext_listF,hw2,List.take_of_length_le (by omega),List.drop_of_length_le (by omega),List.drop_of_length_le (by omega)])
   clear hw1 hw2
   go_wp2_with (at_builtin;refine wpList_append_own _ rfl _ _ 66 rfl w.heap.size 9 i0 (.string ⟨#[]⟩) 1 16 underlying66 hi hz0 hz1 hz2 rfl (by decide) _ _ _ rfl (hown.alloc _) ⟨wr.heap.size,0,none⟩ 1 1 [_] rfl rfl (cell_one_new _ _ _) (by intro u hu;simp at hu;subst hu;rfl) (by unfold maxLen;omega) (by omega) (by simp;omega) ?_;intro v' w2 hown' hgrow _)
   go_roundw
   case rel=>
    have hB2:Below w.heap.size w w2:=(hb.alloc hb.size _).grown hgrow (by simp;omega) (fun j hj=>(hown.lt j hj).1)
    refine ⟨m+1,_,wordsN s.data.toList (m+1),by omega,by go_num,rfl,?_,⟨by rw [HR.out,HTL.out];rfl,rfl⟩,hB2,by have:=hgrow.size;simp at this;omega⟩
    rw [wordsN_succ,strL_snoc,<- HTL.out,<- HW.out]
    exact hown'
   case measure=>simp [intOf];omega
 have hkt':(k:Int)<(t.size:Int):=by omega
 by_cases h32:t[k]=32
 · have e1:((t[k].toNat:Int) !=32)=false:=by rw [h32];rfl
   obtain ⟨hw1,hw2⟩:=word_at (l:=t.data.toList) ha.out (by omega) (.inr (by simp [hkt];exact h32))
   have HW:Hid (t.extract 0 k=ofL (wordOf t.data.toList)):=ext_ofL (by rw [ext_listF,hw1];rfl)
   have HR:Hid (t.extract (k+1) t.size=ofL (restOf t.data.toList)):=ext_ofL (by rw [ext_listF,hw2,List.take_of_length_le (by omega)])
   clear h32 hw1 hw2
   go_wp2_with (at_builtin;refine wpList_append_own _ rfl _ _ 66 rfl w.heap.size 9 i0 (.string ⟨#[]⟩) 1 16 underlying66 hi hz0 hz1 hz2 rfl (by decide) _ _ _ rfl (hown.alloc _) ⟨wr.heap.size,0,none⟩ 1 1 [_] rfl rfl (cell_one_new _ _ _) (by intro u hu;simp at hu;subst hu;rfl) (by unfold maxLen;omega) (by omega) (by simp;omega) ?_;intro v' w2 hown' hgrow _)
   go_roundw
   case rel=>
    have hB2:Below w.heap.size w w2:=(hb.alloc hb.size _).grown hgrow (by simp;omega) (fun j hj=>(hown.lt j hj).1)
    refine ⟨m+1,_,wordsN s.data.toList (m+1),by omega,by go_num,rfl,?_,⟨by rw [HR.out,HTL.out];rfl,rfl⟩,hB2,by have:=hgrow.size;simp at this;omega⟩
    rw [wordsN_succ,strL_snoc,<- HTL.out,<- HW.out]
    exact hown'
   case measure=>simp [intOf];omega
 have e1:((t[k].toNat:Int) !=32)=true:=by
  simp only [bne_iff_ne]
  intro e
  exact h32 (UInt8.toNat_inj.1 (by have:t[k].toNat=32:=by omega
                                   rw [this];rfl))
 have HA:Hid ((t.data.toList.take (k+1)).all (· !=32)=true):=by
  rw [take_snoc t k hkt,List.all_append,ha.out]
  simp [Hid,h32]
 clear h32
 go_wp2
 go_round
 case rel=>exact ⟨k+1,by omega,by go_num,HA⟩
 case measure=>simp [intOf];omega
end Go.Proofs.YthfmmimmfcnhmaaGreatDoor.G
