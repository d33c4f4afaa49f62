import Derived.Test.YthjhakdpikdoeaaGreatDoorT9
import Derived.Test.YthjhakdpikdoeaaGreatDoorZ24
set_option linter.unusedVariables false
set_option maxHeartbeats 8000000
set_option maxRecDepth 100000
namespace Go.Proofs.YthjhakdpikdoeaaGreatDoor
open Proofs.Tryz
open Go.RowKit
variable {a b:Int} {l:List UInt8}
theorem ret_int (h:a=b):Ending.returned (.int .i64 a)=.returned (.int .i64 b):=by rw [h]
theorem str_isEmpty (s:ByteArray) (h:1<=s.size):s.data.toList.isEmpty=false:=by
 cases hl:s.data.toList with
 | nil=>have:s.data.toList.length=s.size:=sm_
        rw [hl] at this;simp at this;omega
 | cons a r=>rfl
theorem ret_pair {x y:Bool} (h:a=b) (h':x=y):Ending.returned (.tuple #[.int .i64 a,.bool x])=.returned (.tuple #[.int .i64 b,.bool y]):=by rw [h,h']
def rn40 (l:List UInt8):Int:=if num40 l=true then val l else 0
theorem n40_lean (h:lean1 l=false):num40 l=false:=by simp [num40,h]
theorem n40_dig (h:l.all isDig=false):num40 l=false:=by simp only [num40,h,Bool.and_false,Bool.false_and]
theorem n40_big (k:Nat) (h:40<val (l.take k)):num40 l=false:=by
 by_cases ha:l.all isDig=true
 · have:=val_take_le l ha k
   have hd:decide (val l<=40)=false:=by simp only [decide_eq_false_iff_not];omega
   simp only [num40,hd,Bool.and_false]
 exact n40_dig (by simpa using ha)
theorem rn_no (h:num40 l=false):rn40 l=0:=by simp [rn40,h]
theorem rn_yes (h:num40 l=true):rn40 l=val l:=by simp [rn40,h]
theorem head_zero (s:ByteArray) (h:0<s.size):s.data.toList.headD 0=s[0]:=by
 have e:s.data.toList=s[0]::s.data.toList.tail:=by
  have hl:s.data.toList.length=s.size:=sm_
  cases hd:s.data.toList with
  | nil=>rw [hd] at hl;simp at hl;omega
  | cons a r=>
   simp only [List.tail_cons]
   congr 1
   have:s[0]=s.data.toList[0]'(by simpa using h):=by simp [ByteArray.getElem_eq_getElem_data]
   rw [this];simp [hd]
 rw [e];rfl
theorem c96 (s:ByteArray) (w:World) (hs:s.size<=1048700):
 Calls prog 96 #[.string s,.int .i64 40] w fun e w'=>e=.returned (.tuple #[.int .i64 (rn40 s.data.toList),.bool (num40 s.data.toList)])/\w'=w:=by
 by_cases h0:s.size=0
 · have e0:s.toList=[]:=by
    rw [ByteArray.toList_eq];exact List.length_eq_zero_iff.1 (by simpa using h0)
   have hN:Hid (num40 s.data.toList=false):=n40_lean (by rw [<- ByteArray.toList_eq,e0];rfl);go_enter func96,ntmps96;go_wp2;go_ret2;exact ⟨ret_pair (rn_no hN.out).symm hN.out.symm,rfl⟩
 have e0:s.toList.isEmpty=false:=by rw [ByteArray.toList_eq];exact str_isEmpty s om_
 have e1:¬ s.toList=[]:=fun h=>by rw [h] at e0;cases e0
 have hp:0<s.size:=om_;have hh:=head_zero s hp;by_cases hl:lean1 s.data.toList=true;rotate_left
 · have hN:Hid (num40 s.data.toList=false):=n40_lean (by simpa using hl)
   have h48:s[0].toNat=48/\¬ s.toList=[48]:=by
    rw [ByteArray.toList_eq] at e1 ⊢;rw [lean1_iff,hh] at hl;by_cases h1:s[0]=48
    · refine ⟨by rw [h1];rfl,fun hz=>hl ⟨e1,fun _=>hz⟩⟩
    exact absurd ⟨e1,fun h=>absurd h h1⟩ hl
   obtain ⟨h48,hz⟩:=h48;have hz':(!s.toList==[48])=true:=by simpa using hz
   clear hh hl;go_enter func96,ntmps96;go_wp2;go_ret2;exact ⟨ret_pair (rn_no hN.out).symm hN.out.symm,rfl⟩
 have HL:Hid (lean1 s.data.toList=true):=hl;have hc:(s[0].toNat=48/\s.toList=[48])\/((s[0].toNat:Int)==48)=false:=by
  by_cases h48:s[0].toNat=48
  · refine .inl ⟨h48,?_⟩
    have h1:s[0]=48:=UInt8.toNat_inj.1 h48;rw [ByteArray.toList_eq];exact ((lean1_iff _).1 hl).2 (by rw [hh];exact h1)
  exact .inr so_
 clear hl hh;rcases hc with ⟨h48,hz⟩ | h48
 all_goals
  go_enter func96,ntmps96;go_wp2;go_loop [6,21] (fun n i=>∃ k:Nat,k<=s.size/\i=.int .i64 k/\n=.int .i64 (val (s.data.toList.take k))/\0<=val (s.data.toList.take k)/\val (s.data.toList.take k)<=40/\Hid ((s.data.toList.take k).all isDig=true)) (fun _ i=>s.size - (intOf i).toNat)
  case atStart=>exact ⟨0,Nat.zero_le _,rfl,rfl,by simp [val],by simp [val],rfl⟩
  obtain ⟨k,hk,rfl,rfl,hv0,hv1,ha⟩:=hrel;by_cases hlt:k<s.size;rotate_left
  · have hall:=all_take_size _ s k om_ ha.out
    have hE:s.data.toList.take k=s.data.toList:=List.take_of_length_le so_;have hN:Hid (num40 s.data.toList=true):=n40_yes HL.out hall (by rw [<- hE];exact hv1);have HE:Hid (s.data.toList.take k=s.data.toList):=hE;clear hall hE;go_wp2;go_ret2;exact ⟨ret_pair (by rw [rn_yes hN.out,HE.out]) hN.out.symm,rfl⟩
  by_cases hg:isDig s[k]=true
  · have hg':=(dig_iff _).1 hg
    have hw:=byte_sub _ hg';have ha':Hid ((s.data.toList.take (k+1)).all isDig=true):=all_take_snoc _ s k hlt ha.out hg;have hvs:Hid (val (s.data.toList.take (k+1))=val (s.data.toList.take k)*10+((s[k].toNat:Int) - 48)):=by
     rw [take_snoc s k hlt];exact val_snoc _ _
    clear hg;by_cases hb:40<val (s.data.toList.take k)*10+((s[k].toNat:Int) - 48)
    · have hN:Hid (num40 s.data.toList=false):=n40_big (k+1) (by rw [hvs.out];exact hb)
      go_wp2;go_ret2;exact ⟨ret_pair (rn_no hN.out).symm hN.out.symm,rfl⟩
    go_wp2
    go_round
    case rel=>exact ⟨k+1,om_,by go_num,by rw [hvs.out],by rw [hvs.out];omega,by rw [hvs.out];omega,ha'⟩
    case measure=>simp [intOf];omega
  have hN:Hid (num40 s.data.toList=false):=n40_dig (all_false_at _ s k hlt (by simpa using hg));have hg':(s[k].toNat:Int)<48\/57<(s[k].toNat:Int):=by
   rcases Int.lt_or_le (s[k].toNat:Int) 48 with h | h
   · exact .inl h
   rcases Int.lt_or_le 57 (s[k].toNat:Int) with h' | h'
   · exact .inr h'
   exact absurd ((dig_iff _).2 ⟨h,h'⟩) hg
  clear hg;rcases hg' with hg | hg
  all_goals
   go_wp2
   all_goals go_ret2
   all_goals exact ⟨ret_pair (rn_no hN.out).symm hN.out.symm,rfl⟩
theorem c46g (f:Nat):∀ (n:Int) (w:World),0<=n->n<=100000000->n.toNat<f->
 Calls prog 46 #[.int .i64 n] w fun e w'=>e=.returned (.string (ofL (dec n)))/\Below w.heap.size w w':=by
 induction f with
 | zero=>intro n w _ _ h;omega
 | succ f ih=>
  intro n w h0 h1 hf;have hcv:=conv1;have hcd:=convD;have hz:∀ y,(strOfNums [y]).size=1:=fun y=>strOfNums_size [y];by_cases h:n<10
  · go_enter func46,ntmps46
    go_wp2;go_ret;exact ⟨by rw [dec_lt n h];rfl,bA⟩
  have hq:(ofL (dec (n / 10))).size<=100000001:=by rw [ofL_size];exact dec_len _ om_ om_
  have H:Hid (∀ w,Calls prog 46 #[.int .i64 (IntKind.i64.wrap (n.tdiv 10))] w fun e w'=>e=.returned (.string (ofL (dec (n / 10))))/\Below w.heap.size w w'):=by
   rw [div_formB n h0 h1];exact fun w=>ih (n / 10) w om_ om_ om_
  have HD:Hid (Ending.returned (.string (ofL (dec (n / 10))++strOfNums [48+n % 10]))=.returned (.string (ofL (dec n)))):=by
   rw [dec_ge n om_,<- ofL_snoc];rfl
  clear ih;go_enter func46,ntmps46
  go_wp2_with fail
  go_region_with (go_at_call 46;refine (H.out _).mono ?_;rintro e w1 ⟨rfl,hb1⟩;(try (have hcb:=convB hb1)))
  all_goals go_wp2
  all_goals go_ret
  all_goals refine ⟨?_,?_⟩
  all_goals first
   | exact HD.out
   | exact (((Below.refl w.heap.size w).drew).trans hb1).alloc hb1.size _
   | exact (((Below.refl w.heap.size w).alloc lr_ _).drew).trans (hb1.mono sm_)
theorem c89 (s:ByteArray) (w:World) (hs:s.size<=1048700):
 Calls prog 89 #[.string s] w fun e w'=>e=.returned (.int .i64 (n29 s.data.toList))/\Below w.heap.size w w':=by
 by_cases h:1<=s.size/\s.size<=7;rotate_left
 · have hN:Hid (n29 s.data.toList=-1):=n29_len (by simpa using h)
   by_cases h1:1<=s.size
   all_goals
    go_enter func89,ntmps89;go_wp2
    all_goals go_ret
    all_goals exact ⟨ret_int hN.out.symm,Below.refl _ _⟩
 obtain ⟨h1,h2⟩:=h;go_enter func89,ntmps89;go_wp2;go_loop [3,4] (fun n i=>∃ k:Nat,k<=s.size/\i=.int .i64 k/\n=.int .i64 (val (s.data.toList.take k))/\0<=val (s.data.toList.take k)/\val (s.data.toList.take k)<=10000000/\Hid ((s.data.toList.take k).all isDig=true)) (fun _ i=>s.size - (intOf i).toNat)
 case atStart=>exact ⟨0,Nat.zero_le _,rfl,rfl,by simp [val],by simp [val],rfl⟩
 obtain ⟨k,hk,rfl,rfl,hv0,hv1,ha⟩:=hrel;by_cases hlt:k<s.size
 · by_cases hg:isDig s[k]=true
   · have hg':=(dig_iff _).1 hg
     have hw:=byte_sub _ hg';have ha':Hid ((s.data.toList.take (k+1)).all isDig=true):=all_take_snoc _ s k hlt ha.out hg;have hvs:Hid (val (s.data.toList.take (k+1))=val (s.data.toList.take k)*10+((s[k].toNat:Int) - 48)):=by
      rw [take_snoc s k hlt];exact val_snoc _ _
     have hb:Hid (val (s.data.toList.take (k+1))<=10000000):=val_seven _ ha'.out so_;clear hg;go_wp2
     go_round
     case rel=>exact ⟨k+1,om_,by go_num,by rw [hvs.out],by rw [hvs.out];omega,hb.out,ha'⟩
     case measure=>simp [intOf];omega
   have hN:Hid (n29 s.data.toList=-1):=n29_dig (all_false_at _ s k hlt (by simpa using hg));have hg':(s[k].toNat:Int)<48\/57<(s[k].toNat:Int):=by
    rcases Int.lt_or_le (s[k].toNat:Int) 48 with h | h
    · exact .inl h
    rcases Int.lt_or_le 57 (s[k].toNat:Int) with h' | h'
    · exact .inr h'
    exact absurd ((dig_iff _).2 ⟨h,h'⟩) hg
   clear hg;rcases hg' with hg | hg
   all_goals
    go_wp2
    all_goals go_ret
    all_goals exact ⟨ret_int hN.out.symm,Below.refl _ _⟩
 have hall:Hid (s.data.toList.all isDig=true):=all_take_size _ s k om_ ha.out;have hE:Hid (s.data.toList.take k=s.data.toList):=List.take_of_length_le so_
 go_wp2_with fail
 refine (c46g _ _ _ hv0 om_ (Nat.lt_succ_self _)).mono ?_;rintro e w1 ⟨rfl,hb1⟩;rw [hE.out];by_cases hd:dec (val s.data.toList)=s.data.toList
 · have hN:Hid (n29 s.data.toList=val s.data.toList):=n29_yes (by simpa using ⟨h1,h2⟩) hall.out hd
   have hne:((ofL (dec (val s.data.toList))).toList==s.toList)=true:=by
    rw [hd,ByteArray.toList_eq,ByteArray.toList_eq];simp [ofL]
   clear hd;go_wp2;go_ret;exact ⟨ret_int hN.out.symm,hb1⟩
 have hN:Hid (n29 s.data.toList=-1):=n29_dec hd;have hne:((ofL (dec (val s.data.toList))).toList==s.toList)=false:=by
  rw [ByteArray.toList_eq,ByteArray.toList_eq];simpa [ofL] using hd
 clear hd;go_wp2;go_ret;exact ⟨ret_int hN.out.symm,hb1⟩
end Go.Proofs.YthjhakdpikdoeaaGreatDoor
namespace Go.Proofs.YthjhakdpikdoeaaGreatDoor
open Proofs.Tryz
open Go.RowKit
variable {w:World} {base g n size:Nat}
theorem lines_below {w':World} {ss:List (List UInt8)} (h:LinesAt w g ss) (hb:Below w.heap.size w w'):LinesAt w' g ss:=
 ⟨Nat.lt_of_lt_of_le h.1 hb.size,fun i hi=>by rw [hb.cell (by exact h.1)];exact h.2 i hi⟩
theorem own_formF {e:TypeId} {v:Value} {xs:List Value} (h:w.ownsRow base e size v n xs) (hn:0<n):∃ g cp,v=.slice (some ⟨g,0,none⟩) n cp:=by
 rcases h.2 with ⟨_,h0⟩ | ⟨g,cap,cur,hv,_⟩
 · omega
 exact ⟨g,cap,hv⟩
theorem ext_listF (s:ByteArray) (a b:Nat):(s.extract a b).data.toList=(s.data.toList.take b).drop a:=by
 rw [ByteArray.data_extract,Array.toList_extract,List.extract_eq_take_drop,List.drop_take]
theorem c87 (s:ByteArray) (b:UInt8) (w:World) (hs:s.size<=1048700):
 Calls prog 87 #[.string s,.int .u8 b.toNat] w fun e w'=>(∃ g cp,e=.returned (.slice (some ⟨g,0,none⟩) (cutS b s.data.toList).length cp)/\w.heap.size<=g/\LinesAt w' g (cutS b s.data.toList))/\Below w.heap.size w w':=by
 obtain ⟨i0,hi,hz0,hz1,hz2⟩:=info_parts info9;have hlen:s.data.toList.length=s.size:=sm_;go_enter func87,ntmps87
 go_wp2_with fail
 go_loopw [5,6,7] (fun v fr i wr=>∃ (k f:Nat),k<=s.size/\f<=k/\i=.int .i64 k/\fr=.int .i64 f/\wr.ownsRow w.heap.size 9 1 v (cstate b (s.data.toList.take k)).1.length (strL (cstate b (s.data.toList.take k)).1)/\Hid ((s.data.toList.take k).drop f=(cstate b (s.data.toList.take k)).2)/\Below w.heap.size w wr/\w.heap.size+1<=wr.heap.size) (fun _ _ i _=>s.size - (intOf i).toNat)
 case atStart=>exact ⟨0,0,Nat.zero_le _,Nat.le_refl _,rfl,rfl,World.ownsRow_lit _ #[] 0 lr_ (Nat.zero_le _) rfl,rfl,bA,sm_⟩
 obtain ⟨k,f,hk,hf,rfl,rfl,hown,hcur,hb,hz⟩:=hrel;have hL:(cstate b (s.data.toList.take k)).1.length<=k:=by
  have:=cstate_le b (s.data.toList.take k);rw [List.length_take] at this;omega
 by_cases hlt:k<s.size;rotate_left
 · have HK:Hid (s.data.toList.take k=s.data.toList):=List.take_of_length_le om_
   have HE:Hid (s.extract f s.size=ofL (cstate b (s.data.toList.take k)).2):=ext_ofL (by rw [ext_listF,<- show k=s.size by omega];exact hcur.out);have HCU:Hid (cutS b s.data.toList=(cstate b (s.data.toList.take k)).1++[(cstate b (s.data.toList.take k)).2]):=by rw [HK.out];rfl
   clear hcur;generalize cstate b (s.data.toList.take k)=st at*
   go_wp2_with (at_builtin;refine wpList_append_own _ rfl _ _ 98 rfl w.heap.size 9 i0 (.string ⟨#[]⟩) 1 16 underlying98 hi hz0 hz1 hz2 rfl dc_ _ _ _ rfl (hown.alloc _) ⟨wr.heap.size,0,none⟩ 1 1 [_] rfl rfl (cell_one_new _ _ _) (by intro u hu;simp at hu;subst hu;rfl) (by unfold maxLen;omega) om_ so_ ?_;intro v' w2 hown' hgrow _;obtain ⟨g,cp,hvv⟩:=own_formF hown' om_;subst hvv)
   go_ret;have hB2:Below w.heap.size w w2:=(hb.alloc hb.size _).grown hgrow so_ (fun j hj=>(hown.lt j hj).1);have ho2:w2.ownsRow w.heap.size 9 1 (.slice (some ⟨g,0,none⟩) (st.1.length+1) cp) (st.1.length+1) (strL (cutS b s.data.toList)):=by
    rw [HCU.out,strL_snoc,<- HE.out];exact hown'
   have hlc:(cutS b s.data.toList).length=st.1.length+1:=by rw [HCU.out];simp
   refine ⟨⟨g,cp,by rw [hlc];rfl,(ho2.lt g rfl).1,lines_of_owns ho2 hlc⟩,hB2⟩
 have HS:Hid (cstate b (s.data.toList.take (k+1))=cst b (cstate b (s.data.toList.take k)) s[k]):=by rw [take_snoc s k hlt,cstate_snoc];rfl
 have HE:Hid (s.extract f k=ofL (cstate b (s.data.toList.take k)).2):=ext_ofL (by rw [ext_listF];exact hcur.out);by_cases hc:s[k]=b
 · have e1:((s[k].toNat:Int)==(b.toNat:Int))=true:=by rw [hc];simp
   have HC:Hid (cst b (cstate b (s.data.toList.take k)) s[k]=((cstate b (s.data.toList.take k)).1++[(cstate b (s.data.toList.take k)).2],[])):=by unfold cst;rw [if_pos hc];rfl
   have HD:Hid ((s.data.toList.take (k+1)).drop (k+1)=[]):=List.drop_of_length_le so_;clear hc hcur;generalize cstate b (s.data.toList.take k)=st at*
   go_wp2_with (at_builtin;refine wpList_append_own _ rfl _ _ 98 rfl w.heap.size 9 i0 (.string ⟨#[]⟩) 1 16 underlying98 hi hz0 hz1 hz2 rfl dc_ _ _ _ rfl (hown.alloc _) ⟨wr.heap.size,0,none⟩ 1 1 [_] rfl rfl (cell_one_new _ _ _) (by intro u hu;simp at hu;subst hu;rfl) (by unfold maxLen;omega) om_ so_ ?_;intro v' w2 hown' hgrow _)
   go_roundw
   case rel=>
    have hB2:Below w.heap.size w w2:=(hb.alloc hb.size _).grown hgrow so_ (fun j hj=>(hown.lt j hj).1);refine ⟨k+1,k+1,om_,Nat.le_refl _,by go_num,by go_num,?_,?_,hB2,by have:=hgrow.size;simp at this;omega⟩
    · rw [HS.out,HC.out,List.length_append,strL_snoc,<- HE.out]
      exact hown'
    rw [HS.out,HC.out];exact HD.out
   case measure=>simp [intOf];omega
 have e1:((s[k].toNat:Int)==(b.toNat:Int))=false:=by
  simp only [beq_eq_false_iff_ne];intro e;exact hc (UInt8.toNat_inj.1 om_)
 have HC:Hid (cst b (cstate b (s.data.toList.take k)) s[k]=((cstate b (s.data.toList.take k)).1,(cstate b (s.data.toList.take k)).2++[s[k]])):=by unfold cst;rw [if_neg hc];rfl
 have HD:Hid ((s.data.toList.take (k+1)).drop f=(s.data.toList.take k).drop f++[s[k]]):=by rw [take_snoc s k hlt,List.drop_append_of_le_length so_];rfl
 clear hc;generalize cstate b (s.data.toList.take k)=st at*;go_wp2;go_roundw
 case rel=>
  refine ⟨k+1,f,om_,om_,by go_num,rfl,?_,?_,hb,hz⟩
  · rw [HS.out,HC.out];exact hown
  rw [HS.out,HC.out,HD.out,hcur.out];rfl
 case measure=>simp [intOf];omega
theorem c88 (s:ByteArray) (w:World) (hs:s.size<=1048700):
 Calls prog 88 #[.string s,.int .i64 1] w fun e w'=>(∃ g cp,e=.returned (.tuple #[.slice (some ⟨g,0,none⟩) 1 cp,.string (ofL (restOf s.data.toList))])/\w.heap.size<=g/\LinesAt w' g [wordOf s.data.toList])/\Below w.heap.size w w':=by
 obtain ⟨i0,hi,hz0,hz1,hz2⟩:=info_parts info9;have hlen:s.data.toList.length=s.size:=sm_;go_enter func88,ntmps88
 go_wp2_with fail
 go_loopw [0,6,7] (fun sv v i wr=>∃ (m:Nat) (t:ByteArray) (ss:List (List UInt8)),m<=1/\i=.int .i64 m/\sv=.string t/\wr.ownsRow w.heap.size 9 1 v m (strL ss)/\Hid ((m=0->t=s/\ss=[])/\(m=1->t=ofL (restOf s.data.toList)/\ss=[wordOf s.data.toList]))/\Below w.heap.size w wr/\w.heap.size+1<=wr.heap.size) (fun _ _ i _=>1 - (intOf i).toNat)
 case atStart=>exact ⟨0,s,[],Nat.zero_le _,rfl,rfl,World.ownsRow_lit _ #[] 0 lr_ (Nat.zero_le _) rfl,⟨fun _=>⟨rfl,rfl⟩,fun h=>om_⟩,bA,sm_⟩
 obtain ⟨m,t,ss,hm,rfl,rfl,hown,hrel,hb,hz⟩:=hrel;by_cases hlt:m<1;rotate_left
 · obtain rfl:m=1:=om_
   obtain ⟨rfl,rfl⟩:=hrel.out.2 rfl;clear hrel;obtain ⟨g,cp,hvv⟩:=own_formF hown om_;subst hvv;go_wp2;go_ret2;exact ⟨⟨g,cp,rfl,(hown.lt g rfl).1,lines_of_owns hown rfl⟩,hb⟩
 obtain rfl:m=0:=om_;obtain ⟨rfl,rfl⟩:=hrel.out.1 rfl;clear hrel
 go_wp2_with fail
 go_loop [8] (fun n=>∃ k:Nat,k<=t.size/\n=.int .i64 k/\Hid ((t.data.toList.take k).all (· !=32)=true)) (fun n=>t.size - (intOf n).toNat)
 case atStart=>exact ⟨0,Nat.zero_le _,rfl,rfl⟩
 obtain ⟨k,hk,rfl,ha⟩:=hrel;by_cases hkt:k<t.size;rotate_left
 · obtain ⟨hw1,hw2⟩:=word_at (l:=t.data.toList) ha.out om_ (.inl om_)
   have HW:Hid (t.extract 0 k=ofL (wordOf t.data.toList)):=ext_ofL (by rw [ext_listF,hw1];rfl);have HR:Hid (t.extract k t.size=ofL (restOf t.data.toList)):=ext_ofL (by rw [ext_listF,hw2,List.take_of_length_le om_,List.drop_of_length_le om_,List.drop_of_length_le om_]);clear hw1 hw2
   go_wp2_with (at_builtin;refine wpList_append_own _ rfl _ _ 98 rfl w.heap.size 9 i0 (.string ⟨#[]⟩) 1 16 underlying98 hi hz0 hz1 hz2 rfl dc_ _ _ _ rfl (hown.alloc _) ⟨wr.heap.size,0,none⟩ 1 1 [_] rfl rfl (cell_one_new _ _ _) (by intro u hu;simp at hu;subst hu;rfl) (by unfold maxLen;omega) om_ so_ ?_;intro v' w2 hown' hgrow _)
   go_roundw
   case rel=>
    have hB2:Below w.heap.size w w2:=(hb.alloc hb.size _).grown hgrow so_ (fun j hj=>(hown.lt j hj).1);refine ⟨1,_,[wordOf t.data.toList],Nat.le_refl _,by go_num,rfl,?_,⟨fun h=>om_,fun _=>⟨HR.out,rfl⟩⟩,hB2,by have:=hgrow.size;simp at this;omega⟩;show w2.ownsRow w.heap.size 9 1 _ 1 [.string (ofL (wordOf t.data.toList))];rw [<- HW.out];exact hown'
   case measure=>simp [intOf]
 have hkt':(k:Int)<(t.size:Int):=om_;by_cases h32:t[k]=32
 · have e1:((t[k].toNat:Int) !=32)=false:=by rw [h32];rfl
   obtain ⟨hw1,hw2⟩:=word_at (l:=t.data.toList) ha.out om_ (.inr (by simp [hkt];exact h32));have HW:Hid (t.extract 0 k=ofL (wordOf t.data.toList)):=ext_ofL (by rw [ext_listF,hw1];rfl);have HR:Hid (t.extract (k+1) t.size=ofL (restOf t.data.toList)):=ext_ofL (by rw [ext_listF,hw2,List.take_of_length_le om_]);clear h32 hw1 hw2
   go_wp2_with (at_builtin;refine wpList_append_own _ rfl _ _ 98 rfl w.heap.size 9 i0 (.string ⟨#[]⟩) 1 16 underlying98 hi hz0 hz1 hz2 rfl dc_ _ _ _ rfl (hown.alloc _) ⟨wr.heap.size,0,none⟩ 1 1 [_] rfl rfl (cell_one_new _ _ _) (by intro u hu;simp at hu;subst hu;rfl) (by unfold maxLen;omega) om_ so_ ?_;intro v' w2 hown' hgrow _)
   go_roundw
   case rel=>
    have hB2:Below w.heap.size w w2:=(hb.alloc hb.size _).grown hgrow so_ (fun j hj=>(hown.lt j hj).1);refine ⟨1,_,[wordOf t.data.toList],Nat.le_refl _,by go_num,rfl,?_,⟨fun h=>om_,fun _=>⟨HR.out,rfl⟩⟩,hB2,by have:=hgrow.size;simp at this;omega⟩;show w2.ownsRow w.heap.size 9 1 _ 1 [.string (ofL (wordOf t.data.toList))];rw [<- HW.out];exact hown'
   case measure=>simp [intOf]
 have e1:((t[k].toNat:Int) !=32)=true:=by
  simp only [bne_iff_ne];intro e;exact h32 (UInt8.toNat_inj.1 (by have:t[k].toNat=32:=om_;rw [this];rfl))
 have HA:Hid ((t.data.toList.take (k+1)).all (· !=32)=true):=by
  rw [take_snoc t k hkt,List.all_append,ha.out];simp [Hid,h32]
 clear h32;go_wp2
 go_round
 case rel=>exact ⟨k+1,om_,by go_num,HA⟩
 case measure=>simp [intOf];omega
end Go.Proofs.YthjhakdpikdoeaaGreatDoor
namespace Go.Proofs.YthjhakdpikdoeaaGreatDoor
open Proofs.Tryz
open Go.RowKit
variable {a b:Int} {c:UInt8} {l q r t:List UInt8}
theorem plain_iff (c:UInt8):plainB c=true↔32<=c.toNat/\c.toNat<=126/\c.toNat≠34/\c.toNat≠92:=by
 unfold plainB;simp only [Bool.and_eq_true,decide_eq_true_eq,Bool.not_eq_true',beq_eq_false_iff_ne];omega
theorem hexL_inj:∀ a b:Fin 16,hexL.getD a.val 0=hexL.getD b.val 0->a=b:=dc_
theorem hexL_eq {a b:Nat} (ha:a<16) (hb:b<16) (h:hexL.getD a 0=hexL.getD b 0):a=b:=by
 have:=hexL_inj ⟨a,ha⟩ ⟨b,hb⟩ h;exact Fin.mk.inj this
theorem u8_lt (c:UInt8):c.toNat<256:=c.toNat_lt
theorem qb_plain (h:plainB c=true):qb c=[c]:=by unfold qb;rw [if_pos h]
theorem qb_not (h:plainB c=false):qb c=[92,hexL.getD (c.toNat / 16) 0,hexL.getD (c.toNat % 16) 0]:=by unfold qb;rw [if_neg (by simp [h])]
theorem plain_92:plainB 92=false:=dc_
theorem qb_ne (c:UInt8):qb c≠[]:=by
 cases h:plainB c
 · rw [qb_not h];simp
 rw [qb_plain h];simp
theorem qb_pre {d:UInt8} (h:qb c++r=qb d++q):c=d/\r=q:=by
 cases hc:plainB c <;> cases hd:plainB d
 · rw [qb_not hc,qb_not hd] at h
   simp only [List.cons_append,List.nil_append,List.cons.injEq,true_and] at h;obtain ⟨h1,h2,h3⟩:=h;have lc:=u8_lt c;have ld:=u8_lt d;have e1:=hexL_eq om_ om_ h1;have e2:=hexL_eq om_ om_ h2;exact ⟨UInt8.toNat_inj.1 om_,h3⟩
 · rw [qb_not hc,qb_plain hd] at h
   simp only [List.cons_append,List.nil_append,List.cons.injEq] at h;rw [<- h.1,plain_92] at hd;cases hd
 · rw [qb_plain hc,qb_not hd] at h
   simp only [List.cons_append,List.nil_append,List.cons.injEq] at h;rw [h.1,plain_92] at hc;cases hc
 rw [qb_plain hc,qb_plain hd] at h;simpa using h
theorem flat_pre {R:List UInt8} (h:t.flatMap qb++R=l.flatMap qb):∃ r,R=r.flatMap qb/\l=t++r:=by
 induction t generalizing l with
 | nil=>exact ⟨l,by simpa using h,rfl⟩
 | cons c t ih=>
  cases l with
  | nil=>
   have:=qb_ne c;simp at h;exact absurd h.1 this
  | cons d l=>
   simp only [List.flatMap_cons,List.append_assoc] at h;obtain ⟨rfl,h2⟩:=qb_pre h;obtain ⟨r,hr,hl⟩:=ih h2;exact ⟨r,hr,by rw [hl];rfl⟩
theorem flat_inj (h:t.flatMap qb=l.flatMap qb):t=l:=by
 obtain ⟨r,hr,hl⟩:=flat_pre (t:=t) (l:=l) (R:=[]) (by simpa using h)
 cases r with
 | nil=>simpa using hl.symm
 | cons c r=>
  have:=qb_ne c;simp at hr;exact absurd hr.1 this
theorem quoteL_inj (h:quoteL t=quoteL l):t=l:=by
 unfold quoteL at h;simp only [List.cons.injEq,true_and,List.append_cancel_right_eq] at h;exact flat_inj h
theorem flat_ge (l:List UInt8):l.length<=(l.flatMap qb).length:=by
 induction l with
 | nil=>simp
 | cons c l ih=>
  have:1<=(qb c).length:=List.length_pos_iff.2 (qb_ne c);simp only [List.flatMap_cons,List.length_append,List.length_cons];omega
theorem quote_ge (l:List UInt8):l.length+2<=(quoteL l).length:=by
 have:=flat_ge l;unfold quoteL;simp only [List.length_cons,List.length_append,List.length_nil];omega
theorem hexL_no10:∀ a:Fin 16,hexL.getD a.val 0≠10/\hexL.getD a.val 0≠32:=dc_
theorem qb_no10 (c:UInt8):(10:UInt8)∉qb c:=by
 cases h:plainB c
 · rw [qb_not h]
   have lc:=u8_lt c;have h1:=(hexL_no10 ⟨c.toNat / 16,om_⟩).1;have h2:=(hexL_no10 ⟨c.toNat % 16,om_⟩).1;simp only [List.mem_cons,List.not_mem_nil,or_false,not_or];exact ⟨dc_,fun e=>h1 e.symm,fun e=>h2 e.symm⟩
 rw [qb_plain h];have:=(plain_iff c).1 h;simp only [List.mem_cons,List.not_mem_nil,or_false];intro e;rw [<- e] at this;simp at this
theorem quote_no10 (l:List UInt8):(10:UInt8)∉quoteL l:=by
 unfold quoteL;simp only [List.mem_cons,List.mem_append,List.mem_flatMap,List.not_mem_nil,or_false,not_or];refine ⟨dc_,fun ⟨c,_,h⟩=>qb_no10 c h,dc_⟩
def hx (b:UInt8):Int:=if 48<=(b.toNat:Int)/\(b.toNat:Int)<=57 then (b.toNat:Int) - 48 else if 97<=(b.toNat:Int)/\(b.toNat:Int)<=102 then (b.toNat:Int) - 97+10 else -1
theorem ret_i (h:a=b):Ending.returned (.int .i64 a)=.returned (.int .i64 b):=by rw [h]
theorem c103 (c:UInt8) (w:World):
 Calls prog 103 #[.int .u8 c.toNat] w fun e w'=>e=.returned (.int .i64 (hx c))/\w'=w:=by
 have hc:=u8_lt c;have HX:Hid (hx c=if 48<=(c.toNat:Int)/\(c.toNat:Int)<=57 then (c.toNat:Int) - 48 else if 97<=(c.toNat:Int)/\(c.toNat:Int)<=102 then (c.toNat:Int) - 97+10 else -1):=rfl;generalize (c.toNat:Int)=n at*;go_enter func103,ntmps103;go_wp2
 all_goals go_ret
 all_goals refine ⟨ret_i ?_,rfl⟩
 all_goals rw [HX.out]
 all_goals (repeat' split)
 all_goals omega
theorem hex_index (b:UInt8):(Lib.indexByte hexL b=-1/\∀ n,n<16->hexL.getD n 0≠b)\/∃ n:Nat,n<16/\Lib.indexByte hexL b=n/\hexL.getD n 0=b:=by
 have hge:=Lib.indexByte_ge hexL b;by_cases h:Lib.indexByte hexL b=-1
 · refine .inl ⟨h,fun n hn e=>Lib.indexByte_none h n ?_⟩
   have hl:n<hexL.length:=hn;rw [<- e];simp [List.getD,List.getElem?_eq_getElem hl]
 obtain ⟨o,ho⟩:∃ o:Nat,Lib.indexByte hexL b=o:=⟨(Lib.indexByte hexL b).toNat,om_⟩;obtain ⟨h1,_⟩:=Lib.indexByte_some ho;have hl:o<hexL.length:=by
  rcases Nat.lt_or_ge o hexL.length with h | h
  · exact h
  rw [List.getElem?_eq_none h] at h1;cases h1
 exact .inr ⟨o,hl,ho,by simp [List.getD,h1]⟩
theorem c176 (b:UInt8) (w:World):
 Calls prog 176 #[.string ⟨#[48,49,50,51,52,53,54,55,56,57,97,98,99,100,101,102]⟩,.int .u8 b.toNat] w fun e w'=>e=.returned (.int .i64 (Lib.indexByte hexL b))/\w'=w:=by
 refine (Tryz.strings_IndexByte _ _ w).mono ?_;rintro e w' ⟨rfl,rfl⟩;refine ⟨ret_i ?_,rfl⟩;have e1:(b.toNat:Int).toNat.toUInt8=b:=sm_;rw [e1];rfl
theorem ret_u8b {x y:Bool} (h:a=b) (h':x=y):Ending.returned (.tuple #[.int .u8 a,.bool x])=.returned (.tuple #[.int .u8 b,.bool y]):=by rw [h,h']
def Unesc (l:List UInt8) (c:UInt8) (ok:Bool):Prop:=(ok=true->plainB c=false/\∃ r,l=qb c++r)/\(ok=false->∀ d r,plainB d=false->l≠qb d++r)
theorem or_form0:∀ h l:Fin 16,bits BinOp.or IntKind.i64 (((h.val:Nat):Int)*16) ((l.val:Nat):Int)=16*((h.val:Nat):Int)+((l.val:Nat):Int):=by decide +kernel
theorem or_form (h l:Nat) (hh:h<16) (hl:l<16):bits BinOp.or IntKind.i64 ((h:Int)*16) (l:Int) % 256=((UInt8.ofNat (16*h+l)).toNat:Int):=by
 have:=or_form0 ⟨h,hh⟩ ⟨l,hl⟩;simp only at this;rw [this];simp
theorem ofNat_parts (h l:Nat) (hh:h<16) (hl:l<16):(UInt8.ofNat (16*h+l)).toNat / 16=h/\(UInt8.ofNat (16*h+l)).toNat % 16=l:=by
 have e:(UInt8.ofNat (16*h+l)).toNat=16*h+l:=so_;rw [e];omega
theorem list3_of (s:ByteArray) (h:2<s.size):∃ r,s.data.toList=s[0]::s[1]::s[2]::r:=by
 have hl:s.data.toList.length=s.size:=sm_;have g:∀ (k:Nat) (hk:k<s.size),s.data.toList[k]'(by simpa using hk)=s[k]:=fun k hk=>by simp [ByteArray.getElem_eq_getElem_data]
 rcases hd:s.data.toList with _ | ⟨a,_ | ⟨b,_ | ⟨c,r⟩⟩⟩
 · rw [hd] at hl;simp at hl;omega
 · rw [hd] at hl;simp at hl;omega
 · rw [hd] at hl;simp at hl;omega
 have g0:=g 0 om_;have g1:=g 1 om_;have g2:=g 2 h;simp only [hd,List.getElem_cons_zero,List.getElem_cons_succ] at g0 g1 g2;exact ⟨r,by rw [<- g0,<- g1,<- g2]⟩
theorem unesc_no {s:ByteArray} (h:2<s.size) (hn:s[0]≠92\/(∀ n,n<16->hexL.getD n 0≠s[1])\/(∀ n,n<16->hexL.getD n 0≠s[2])) (c:UInt8):Unesc s.data.toList c false:=by
 refine ⟨(fun h=>by cases h),fun _ d r hd e=>?_⟩;obtain ⟨q,hq⟩:=list3_of s h;rw [hq,qb_not hd] at e;simp only [List.cons_append,List.nil_append,List.cons.injEq] at e;have ld:=u8_lt d;rcases hn with hn | hn | hn
 · exact hn e.1
 · exact hn _ om_ e.2.1.symm
 exact hn _ om_ e.2.2.1.symm
def Is88 (l:List UInt8) (e:Ending):Prop:=∃ c ok,e=.returned (.tuple #[.int .u8 (c:UInt8).toNat,.bool ok])/\Unesc l c ok
theorem c154 (s:ByteArray) (w:World) (hs:s.size<=1048700):
 Calls prog 154 #[.string s] w fun e w'=>Is88 s.data.toList e/\w'=w:=by
 by_cases h3:s.size<3
 · have HU:Hid (Unesc s.data.toList 0 false):=by
    refine ⟨(fun h=>by cases h),fun _ d r hd e=>?_⟩;have:=congrArg List.length e;rw [qb_not hd] at this;simp at this;omega
   go_enter func154,ntmps154;go_wp2;go_ret2;exact ⟨⟨0,false,rfl,HU.out⟩,rfl⟩
 have hz0:0<s.size:=om_;have hz1:1<s.size:=om_;have hz2:2<s.size:=om_;by_cases h92:s[0]=92;rotate_left
 · have HU:Hid (Unesc s.data.toList 0 false):=unesc_no hz2 (.inl h92) 0
   have e0:((s[0].toNat:Int) !=92)=true:=by
    simp only [bne_iff_ne];intro e;exact h92 (UInt8.toNat_inj.1 (by have:s[0].toNat=92:=om_;rw [this];rfl))
   clear h92;go_enter func154,ntmps154;go_wp2;go_ret2;exact ⟨⟨0,false,rfl,HU.out⟩,rfl⟩
 have e0:((s[0].toNat:Int) !=92)=false:=by rw [h92];rfl
 have H92:Hid (s[0]=92):=h92;clear h92;go_enter func154,ntmps154
 go_wp2_with fail
 refine (c176 _ _).mono ?_;rintro e w' ⟨rfl,rfl⟩
 go_wp2_with fail
 refine (c176 _ _).mono ?_;rintro e w' ⟨rfl,rfl⟩;rcases hex_index s[1] with ⟨hi,hin⟩ | ⟨h,hh,hi,hin⟩
 · have HU:Hid (Unesc s.data.toList 0 false):=unesc_no hz2 (.inr (.inl hin)) 0
   clear hin;rw [hi];go_wp2;go_ret2;exact ⟨⟨0,false,rfl,HU.out⟩,rfl⟩
 rw [hi];rcases hex_index s[2] with ⟨lo,lon⟩ | ⟨l,hl,lo,lon⟩
 · have HU:Hid (Unesc s.data.toList 0 false):=unesc_no hz2 (.inr (.inr lon)) 0
   clear hin lon;rw [lo];go_wp2;go_ret2;exact ⟨⟨0,false,rfl,HU.out⟩,rfl⟩
 rw [lo];have ho:=or_form h l hh hl;obtain ⟨p1,p2⟩:=ofNat_parts h l hh hl;have HQ:Hid (plainB (UInt8.ofNat (16*h+l))=false->qb (UInt8.ofNat (16*h+l))=([92,s[1],s[2]]:List UInt8)):=fun hp=>by
  rw [qb_not hp,p1,p2,hin,lon]
 have HV:Hid (plainB (UInt8.ofNat (16*h+l))=true->∀ d r,plainB d=false->s.data.toList≠qb d++r):=fun hp d r hd e=>by
  obtain ⟨q,hq⟩:=list3_of s hz2;rw [hq,qb_not hd] at e;simp only [List.cons_append,List.nil_append,List.cons.injEq] at e;have ld:=u8_lt d;have e1:=hexL_eq om_ hh (e.2.1.symm.trans hin.symm);have e2:=hexL_eq om_ hl (e.2.2.1.symm.trans lon.symm);have e3:d=UInt8.ofNat (16*h+l):=UInt8.toNat_inj.1 (by have:=u8_lt (UInt8.ofNat (16*h+l));omega);rw [<- e3,hd] at hp;cases hp
 clear hin lon p1 p2;generalize UInt8.ofNat (16*h+l)=c at*
 go_wp2_with fail
 rw [ho];refine (c152 c _).mono ?_;rintro e w' ⟨rfl,hw⟩;obtain rfl:=hw.symm;cases hp:plainB c
 · have HU:Hid (Unesc s.data.toList c true):=by
    refine ⟨fun _=>⟨hp,?_⟩,(fun h=>by cases h)⟩;obtain ⟨q,hq⟩:=list3_of s hz2;exact ⟨q,by rw [hq,HQ.out hp,H92.out];rfl⟩
   clear hp;go_wp2;go_ret2;exact ⟨⟨c,true,ret_u8b rfl rfl,HU.out⟩,rfl⟩
 have HU:Hid (Unesc s.data.toList 0 false):=⟨(fun h=>by cases h),fun _=>HV.out hp⟩;clear hp;go_wp2;go_ret2;exact ⟨⟨0,false,rfl,HU.out⟩,rfl⟩
end Go.Proofs.YthjhakdpikdoeaaGreatDoor
namespace Go.Proofs.YthjhakdpikdoeaaGreatDoor
open Go.RowKit
def body (x:I3):List UInt8:=word x.op++toL x++txL x
theorem line_body (x:I3):lineL x=body x++[10]:=rfl
theorem words_no32:∀ i:Fin 12,(32:UInt8)∉word ((i.val:Nat):Int)/\(10:UInt8)∉word ((i.val:Nat):Int):=dc_
theorem word_no32 (op:Int):(32:UInt8)∉word op/\(10:UInt8)∉word op:=by
 by_cases h:1<=op/\op<=11
 · obtain ⟨n,rfl⟩:=Int.eq_ofNat_of_zero_le (show 0<=op by omega)
   exact words_no32 ⟨n,om_⟩
 rw [word_out op h];simp
theorem words_inj:∀ i j:Fin 12,1<=i.val->1<=j.val->word ((i.val:Nat):Int)=word ((j.val:Nat):Int)->i=j:=dc_
theorem word_inj {a b:Int} (ha:1<=a/\a<=11) (hb:1<=b/\b<=11) (h:word a=word b):a=b:=by
 obtain ⟨n,rfl⟩:=Int.eq_ofNat_of_zero_le (show 0<=a by omega);obtain ⟨m,rfl⟩:=Int.eq_ofNat_of_zero_le (show 0<=b by omega);have:=words_inj ⟨n,om_⟩ ⟨m,om_⟩ (by show 1<=n;omega) (by show 1<=m;omega) h;have:=Fin.mk.inj this;rw [this]
theorem dec_eq (n:Nat):dec (n:Int)=Lib.decDigits n:=by
 induction n using Nat.strongRecOn with
 | _ n ih=>
  by_cases h:n<10
  · rw [dec_lt _ om_,dec_small n h,show (48+(n:Int)).toNat=48+n by omega]
  rw [dec_ge _ om_,dec_two n h,show (n:Int) / 10=((n / 10:Nat):Int) by omega,ih (n / 10) om_,show (48+(n:Int) % 10).toNat=48+n % 10 by omega]
theorem digs (n:Nat) (h:n<10):isDig (UInt8.ofNat (48+n))=true/\((UInt8.ofNat (48+n)).toNat:Int) - 48=n:=by
 have e:(UInt8.ofNat (48+n)).toNat=48+n:=so_;rw [dig_iff,e];omega
theorem decD_ok (n:Nat):(Lib.decDigits n).all isDig=true/\val (Lib.decDigits n)=n:=by
 induction n using Nat.strongRecOn with
 | _ n ih=>
  by_cases h:n<10
  · rw [dec_small n h]
    obtain ⟨h1,h2⟩:=digs n h;refine ⟨by rw [List.all_cons,h1];rfl,?_⟩;have:=val_snoc [] (UInt8.ofNat (48+n));rw [List.nil_append] at this;rw [this,h2];simp [val]
  obtain ⟨h1,h2⟩:=digs (n % 10) om_;obtain ⟨i1,i2⟩:=ih (n / 10) om_;rw [dec_two n h,List.all_append,i1,val_snoc,i2,h2];refine ⟨by rw [List.all_cons,h1];rfl,om_⟩
theorem decD_no32 (n:Nat):(32:UInt8)∉Lib.decDigits n/\(10:UInt8)∉Lib.decDigits n:=by
 have:=(decD_ok n).1;rw [List.all_eq_true] at this;constructor
 · intro h;have:=this _ h;revert this;decide
 intro h;have:=this _ h;revert this;decide
theorem num40_dec (n:Nat) (h:n<=40):num40 (Lib.decDigits n)=true:=by
 obtain ⟨h1,h2⟩:=decD_ok n;refine n40_yes ?_ h1 (by rw [h2];omega);have:=(dec_lean (n+1) (n:Int) om_ om_).1
 rwa [dec_eq] at this
theorem num40_of {l:List UInt8} (h:num40 l=true):0<=val l/\val l<=40/\l=Lib.decDigits (val l).toNat:=by
 simp only [num40,Bool.and_eq_true,decide_eq_true_eq] at h;obtain ⟨⟨h1,h2⟩,h3⟩:=h;have h0:=val_nonneg l h2;refine ⟨h0,h3,?_⟩;have h4:=(dec_val l h2 h1).1;have e:val l=((val l).toNat:Int):=om_;rw [<- dec_eq,<- e,h4]
theorem n29_dec0 (n:Nat) (h:n<=40):n29 (Lib.decDigits n)=n:=by
 have h40:=num40_dec n h;obtain ⟨h1,h2⟩:=decD_ok n;have hl:=decLen n om_;have hne:Lib.decDigits n≠[]:=by rw [<- dec_eq];exact dec_ne _
 rw [n29_yes ⟨List.length_pos_iff.2 hne,om_⟩ h1 (by rw [h2,dec_eq]),h2]
def IsBody (l:List UInt8) (x:I3) (ok:Bool):Prop:=(ok=true->okI x=true/\l=body x)/\(ok=false->∀ y,okI y=true->l≠body y)
theorem body_word {y:I3} (_hy:okI y=true):wordOf (body y)=word y.op:=by
 have hw:=(word_no32 y.op).1;unfold body;cases hO:usesTo y.op <;> cases hX:usesTx y.op
 · rw [toL,txL,hO,hX];simp;exact (word_none hw).1
 · rw [toL,txL,hO,hX];simp;exact (word_split hw).1
 · rw [toL,txL,hO,hX];simp;exact (word_split hw).1
 rw [toL,txL,hO,hX];simp;exact (word_split hw).1
theorem body_op {l:List UInt8} {y:I3} {op:Int} (hy:okI y=true) (h:l=body y) (ho:1<=op/\op<=11) (hw:word op=wordOf l):y.op=op:=by
 rw [h,body_word hy] at hw;exact (word_inj ho (okI_bad hy).1 hw).symm
theorem noBody_op {l:List UInt8} (h:∀ op:Nat,1<=op->op<=11->word op≠wordOf l) (y:I3) (hy:okI y=true):l≠body y:=by
 intro e;obtain ⟨h1,_⟩:=okI_bad hy;obtain ⟨n,hn⟩:=Int.eq_ofNat_of_zero_le (show 0<=y.op by omega);apply h n om_ om_;rw [e,body_word hy,hn]
theorem tx0:(⟨#[]⟩:ByteArray).toList.isEmpty=true:=by rw [ByteArray.toList_eq];rfl
theorem isBody_no (l:List UInt8) (x:I3) (h:∀ y,okI y=true->l≠body y):IsBody l x false:=⟨(fun h=>by cases h),fun _=>h⟩
section
variable {l:List UInt8} {op:Nat} (h1:1<=op) (h2:op<=11) (hw:word op=wordOf l)
include h1 h2 hw
theorem isBody_00 (hO:usesTo op=false) (hX:usesTx op=false):(l=wordOf l->IsBody l ⟨op,⟨#[]⟩,0⟩ true)/\(l≠wordOf l->∀ y,okI y=true->l≠body y):=by
 constructor
 · intro e
   refine ⟨fun _=>⟨okI_mk ⟨by show (1:Int)<=op;omega,by show (op:Int)<=11;omega⟩ (.inr rfl) (.inr tx0) (Int.le_refl _) (by show (0:Int)<=40;omega) (by show ((0:Nat):Int)<=300;omega),?_⟩,fun h=>by cases h⟩;unfold body;rw [toL,txL];simp only [hO,hX,Bool.false_eq_true,if_false,List.append_nil];rw [hw];exact e
 intro hne y hy e;have ho:=body_op hy e ⟨om_,om_⟩ hw;apply hne;rw [<- hw,<- ho];rw [e];unfold body;rw [toL,txL,ho,hO,hX];simp
theorem no_blank (hu:usesTo op=true\/usesTx op=true) (hn:(32:UInt8)∉l) (y:I3) (hy:okI y=true):l≠body y:=by
 intro e;have ho:=body_op hy e ⟨om_,om_⟩ hw;apply hn;rw [e];unfold body;rw [toL,txL,ho];rcases hu with hu | hu
 · rw [hu];simp
 rw [hu];cases usesTo (op:Int) <;> simp
theorem isBody_10 (hO:usesTo op=true) (hX:usesTx op=false) (hm:(32:UInt8)∈l):IsBody l ⟨op,⟨#[]⟩,rn40 (restOf l)⟩ (num40 (restOf l)):=by
 obtain ⟨hp,_⟩:=word_parts hm;constructor
 · intro hn
   obtain ⟨n0,n40,nd⟩:=num40_of hn;rw [rn_yes hn];refine ⟨okI_mk ⟨by show (1:Int)<=op;omega,by show (op:Int)<=11;omega⟩ (.inl hO) (.inr tx0) n0 n40 (by show ((0:Nat):Int)<=300;omega),?_⟩;unfold body;rw [toL,txL];simp only [hO,hX,if_true,Bool.false_eq_true,if_false,List.append_nil];rw [<- nd,hw];exact hp
 intro hn y hy e;have ho:=body_op hy e ⟨om_,om_⟩ hw;obtain ⟨_,_,_,y0,y40,_⟩:=okI_bad hy;have:restOf l=Lib.decDigits y.to.toNat:=by
  rw [e];unfold body;rw [toL,txL,ho,hO,hX];simp only [if_true,Bool.false_eq_true,if_false,List.append_nil];exact (word_split (word_no32 _).1).2
 rw [this,num40_dec _ om_] at hn;cases hn
theorem isBody_01 (hO:usesTo op=false) (hX:usesTx op=true) (hm:(32:UInt8)∈l) (h300:l.length<=300) {t:List UInt8} {ok:Bool} (hu:(ok=true->restOf l=quoteL t)/\(ok=false->∀ q,restOf l≠quoteL q)):IsBody l ⟨op,ofL t,0⟩ ok:=by
 obtain ⟨hp,_⟩:=word_parts hm;constructor
 · intro hk
   have hq:=hu.1 hk;have hlen:t.length<=300:=by
    have:=quote_ge t;have h3:=congrArg List.length hp;rw [hq] at h3;simp only [List.length_append,List.length_cons] at h3;omega
   refine ⟨okI_mk ⟨by show (1:Int)<=op;omega,by show (op:Int)<=11;omega⟩ (.inr rfl) (.inl hX) (Int.le_refl _) (by show (0:Int)<=40;omega) (by show ((ofL t).size:Int)<=300;rw [ofL_size];omega),?_⟩;unfold body;rw [toL,txL];simp only [hO,hX,if_true,Bool.false_eq_true,if_false,List.append_nil];have:(ofL t).data.toList=t:=rfl;rw [this,<- hq,hw];exact hp
 intro hk y hy e;have ho:=body_op hy e ⟨om_,om_⟩ hw;apply hu.2 hk y.tx.data.toList;rw [e];unfold body;rw [toL,txL,ho,hO,hX];simp only [if_true,Bool.false_eq_true,if_false,List.append_nil];exact (word_split (word_no32 _).1).2
theorem no_blank2 (hO:usesTo op=true) (hX:usesTx op=true) (hn:(32:UInt8)∉restOf l) (y:I3) (hy:okI y=true):l≠body y:=by
 intro e;have ho:=body_op hy e ⟨om_,om_⟩ hw;apply hn;rw [e];unfold body;rw [toL,txL,ho,hO,hX];simp only [if_true,List.append_assoc,List.cons_append];rw [(word_split (word_no32 _).1).2];simp
theorem isBody_11 (hO:usesTo op=true) (hX:usesTx op=true) (hm:(32:UInt8)∈l) (hm2:(32:UInt8)∈restOf l) (h300:l.length<=300) (hn:num40 (wordOf (restOf l))=true) {t:List UInt8} {ok:Bool} (hu:(ok=true->restOf (restOf l)=quoteL t)/\(ok=false->∀ q,restOf (restOf l)≠quoteL q)):IsBody l ⟨op,ofL t,rn40 (wordOf (restOf l))⟩ ok:=by
 obtain ⟨hp,_⟩:=word_parts hm;obtain ⟨hp2,_⟩:=word_parts hm2;obtain ⟨n0,n40,nd⟩:=num40_of hn;rw [rn_yes hn];constructor
 · intro hk
   have hq:=hu.1 hk;have hlen:t.length<=300:=by
    have:=quote_ge t;have h3:=congrArg List.length hp;have h4:=congrArg List.length hp2;rw [hq] at h4;simp only [List.length_append,List.length_cons] at h3 h4;omega
   refine ⟨okI_mk ⟨by show (1:Int)<=op;omega,by show (op:Int)<=11;omega⟩ (.inl hO) (.inl hX) n0 n40 (by show ((ofL t).size:Int)<=300;rw [ofL_size];omega),?_⟩;unfold body;rw [toL,txL];simp only [hO,hX,if_true,List.append_assoc,List.cons_append];have:(ofL t).data.toList=t:=rfl;rw [this,<- hq,<- nd,hw,<- hp2];exact hp
 intro hk y hy e;have ho:=body_op hy e ⟨om_,om_⟩ hw;apply hu.2 hk y.tx.data.toList;rw [e];unfold body;rw [toL,txL,ho,hO,hX];simp only [if_true,List.append_assoc,List.cons_append];rw [(word_split (word_no32 _).1).2,(word_split (decD_no32 _).1).2]
theorem noBody_11 (hO:usesTo op=true) (hX:usesTx op=true) (hn:num40 (wordOf (restOf l))=false) (y:I3) (hy:okI y=true):l≠body y:=by
 intro e;have ho:=body_op hy e ⟨om_,om_⟩ hw;obtain ⟨_,_,_,y0,y40,_⟩:=okI_bad hy;have:wordOf (restOf l)=Lib.decDigits y.to.toNat:=by
  rw [e];unfold body;rw [toL,txL,ho,hO,hX];simp only [if_true,List.append_assoc,List.cons_append];rw [(word_split (word_no32 _).1).2,(word_split (decD_no32 _).1).1]
 rw [this,num40_dec _ om_] at hn;cases hn
end
end Go.Proofs.YthjhakdpikdoeaaGreatDoor
namespace Go.Proofs.YthjhakdpikdoeaaGreatDoor
open Go.RowKit
variable {R a l q r:List UInt8} {x y:I3} {is js:List I3}
theorem body_no10 (x:I3):(10:UInt8)∉body x:=by
 unfold body;simp only [List.mem_append,not_or];refine ⟨⟨(word_no32 _).2,?_⟩,?_⟩
 · unfold toL;split
   · simp only [List.mem_cons,not_or];exact ⟨dc_,(decD_no32 _).2⟩
   simp
 unfold txL;split
 · simp only [List.mem_cons,not_or];exact ⟨dc_,quote_no10 _⟩
 simp
theorem decD_inj {a b:Nat} (h:Lib.decDigits a=Lib.decDigits b):a=b:=by
 have h1:=(decD_ok a).2;have h2:=(decD_ok b).2;rw [h] at h1;omega
theorem tx_empty {a b:ByteArray} (ha:a.toList.isEmpty=true) (hb:b.toList.isEmpty=true):a=b:=by
 apply tx_inj;rw [ByteArray.toList_eq] at ha hb;rw [List.isEmpty_iff] at ha hb;rw [ha,hb]
theorem body_inj (hx:okI x=true) (hy:okI y=true) (h:body x=body y):x=y:=by
 obtain ⟨x1,x2,x3,x4,x5,x6⟩:=okI_bad hx;obtain ⟨y1,y2,y3,y4,y5,y6⟩:=okI_bad hy;have ho:x.op=y.op:=word_inj x1 y1 (by rw [<- body_word hx,<- body_word hy,h]);obtain ⟨op,tx,to⟩:=x;obtain ⟨op',tx',to'⟩:=y;simp only at ho;subst ho;simp only at x2 x3 x4 x5 x6 y2 y3 y4 y5 y6;unfold body toL txL at h;simp only [List.append_assoc,List.append_cancel_left_eq] at h;cases hO:usesTo op <;> cases hX:usesTx op
 · simp only [hO,Bool.false_eq_true,false_or] at x2 y2
   simp only [hX,Bool.false_eq_true,false_or] at x3 y3;rw [x2,y2,tx_empty x3 y3]
 · simp only [hO,Bool.false_eq_true,false_or] at x2 y2
   simp only [hO,hX,Bool.false_eq_true,if_false,if_true,List.nil_append,List.cons.injEq,true_and] at h;rw [x2,y2,tx_inj (quoteL_inj h)]
 · simp only [hX,Bool.false_eq_true,false_or] at x3 y3
   simp only [hO,hX,Bool.false_eq_true,if_false,if_true,List.append_nil,List.cons.injEq,true_and] at h;have:=decD_inj h;rw [tx_empty x3 y3,show to=to' by omega]
 simp only [hO,hX,if_true,List.cons_append,List.cons.injEq,true_and] at h;have h1:=(word_split (r:=quoteL tx.data.toList) (decD_no32 to.toNat).1);have h2:=(word_split (r:=quoteL tx'.data.toList) (decD_no32 to'.toNat).1);rw [h] at h1;have e1:=decD_inj (h1.1.symm.trans h2.1);have e2:=quoteL_inj (h1.2.symm.trans h2.2);rw [tx_inj e2,show to=to' by omega]
theorem line_pre (hx:okI x=true) (hy:okI y=true) (h:lineL x++r=lineL y++q):x=y/\r=q:=by
 rw [line_body,line_body,List.append_assoc,List.append_assoc] at h;obtain ⟨h1,h2⟩:=split10 (body_no10 x) (body_no10 y) h;exact ⟨body_inj hx hy h1,h2⟩
theorem line_ne (x:I3):lineL x≠[]:=by rw [line_body];simp
theorem lines_pre (hi:is.all okI=true) (hj:js.all okI=true) (h:is.flatMap lineL++R=js.flatMap lineL):∃ r,R=r.flatMap lineL/\js=is++r:=by
 induction is generalizing js with
 | nil=>exact ⟨js,by simpa using h,rfl⟩
 | cons x is ih=>
  simp only [List.all_cons,Bool.and_eq_true] at hi
  cases js with
  | nil=>
   have:=line_ne x;simp at h;exact absurd h.1 this
  | cons y js=>
   simp only [List.all_cons,Bool.and_eq_true] at hj;simp only [List.flatMap_cons,List.append_assoc] at h;obtain ⟨rfl,h2⟩:=line_pre hi.1 hj.1 h;obtain ⟨r,hr,hl⟩:=ih hi.2 hj.2 h2;exact ⟨r,hr,by rw [hl];rfl⟩
theorem lines_inj (hi:is.all okI=true) (hj:js.all okI=true) (h:is.flatMap lineL=js.flatMap lineL):is=js:=by
 obtain ⟨r,hr,hl⟩:=lines_pre (R:=[]) hi hj (by simpa using h)
 cases r with
 | nil=>simpa using hl.symm
 | cons y r=>
  have:=line_ne y;simp at hr;exact absurd hr.1 this
theorem lines_ge (is:List I3):is.length<=(is.flatMap lineL).length:=by
 induction is with
 | nil=>simp
 | cons x r ih=>
  have:1<=(lineL x).length:=List.length_pos_iff.2 (line_ne x);simp only [List.flatMap_cons,List.length_append,List.length_cons];omega
def IsRead (l:List UInt8) (is:List I3) (ok:Bool):Prop:=(ok=true->okT is=true/\is.flatMap lineL=l/\l.length<=300)/\(ok=false->is=[]/\∀ js,okT js=true->js.flatMap lineL=l->300<l.length)
theorem isRead_one {a b:Bool} (h:IsRead l is a) (k:IsRead l js b):is=js/\a=b:=by
 cases a <;> cases b
 · exact ⟨(h.2 rfl).1.trans (k.2 rfl).1.symm,rfl⟩
 · obtain ⟨k1,k2,k3⟩:=k.1 rfl
   have:=(h.2 rfl).2 js k1 k2;omega
 · obtain ⟨k1,k2,k3⟩:=h.1 rfl
   have:=(k.2 rfl).2 is k1 k2;omega
 obtain ⟨k1,k2,k3⟩:=k.1 rfl;obtain ⟨h1,h2,h3⟩:=h.1 rfl;exact ⟨lines_inj (okT_facts h1).2 (okT_facts k1).2 (h2.trans k2.symm),rfl⟩
def Way (l:List UInt8) (is:List I3) (r:List UInt8):Prop:=l=is.flatMap lineL++r/\is.all okI=true
theorem way_start (l:List UInt8):Way l [] l:=⟨rfl,rfl⟩
theorem way_step (h:Way l is (a++10::r)) (hx:okI x=true/\a=body x):Way l (is++[x]) r:=by
 refine ⟨?_,by rw [List.all_append,h.2];simp [hx.1]⟩;rw [h.1,List.flatMap_append,hx.2];simp [line_body]
theorem way_stuck (h:Way l is r) (hr:r≠[]) (hn:∀ y q,okI y=true->r≠body y++10::q):IsRead l [] false:=by
 refine ⟨(fun h=>by cases h),fun _=>⟨rfl,fun js hj e=>?_⟩⟩;exfalso;obtain ⟨q,hq,hl⟩:=lines_pre h.2 (okT_facts hj).2 (h.1.symm.trans e.symm)
 cases q with
 | nil=>exact hr hq
 | cons y q=>
  have hy:okI y=true:=by
   have:=(okT_facts hj).2;rw [hl,List.all_append,List.all_cons] at this;simp only [Bool.and_eq_true] at this;exact this.2.1
  apply hn y (q.flatMap lineL) hy;rw [hq,List.flatMap_cons,line_body,List.append_assoc];rfl
theorem way_end (h:Way l is []) (h300:l.length<=300):(okT is=true->IsRead l is true)/\(okT is=false->IsRead l [] false):=by
 have e:l=is.flatMap lineL:=by simpa using h.1
 refine ⟨fun hk=>⟨fun _=>⟨hk,e.symm,h300⟩,(fun h=>by cases h)⟩,fun hk=>⟨(fun h=>by cases h),fun _=>⟨rfl,fun js hj ej=>?_⟩⟩⟩;have:=lines_inj (okT_facts hj).2 h.2 (ej.trans e);rw [this,hk] at hj;cases hj
theorem read_long (h:300<l.length):IsRead l [] false:=⟨(fun h=>by cases h),fun _=>⟨rfl,fun _ _ _=>h⟩⟩
theorem way_len (h:Way l is r):is.length+r.length<=l.length/\∀ i,(is.getD i i3z).tx.size<=300:=by
 have h1:=lines_ge is;have h2:=congrArg List.length h.1;rw [List.length_append] at h2;refine ⟨om_,getD_small3 fun i hi=>?_⟩;have:=(okI_bad (get_ok h.2 hi)).2.2.2.2.2;omega
def insCells (is:List I3):List Value:=is.flatMap fun x=>[.int .i64 x.op,.string x.tx,.int .i64 x.to]
theorem insCells_snoc (is:List I3) (x:I3):insCells (is++[x])=insCells is++[.int .i64 x.op,.string x.tx,.int .i64 x.to]:=by simp [insCells]
theorem insCells_get (is:List I3) (i:Nat) (h:i<is.length):(insCells is)[i*3]?=some (.int .i64 (is.getD i i3z).op)/\(insCells is)[i*3+1]?=some (.string (is.getD i i3z).tx)/\(insCells is)[i*3+2]?=some (.int .i64 (is.getD i i3z).to):=by
 induction is generalizing i with
 | nil=>simp at h
 | cons x r ih=>
  cases i with
  | zero=>exact ⟨rfl,rfl,rfl⟩
  | succ i=>
   have:=ih i (by simpa using h);have e:∀ j,(insCells (x::r))[(i+1)*3+j]?=(insCells r)[i*3+j]?:=fun j=>by
    show ([Value.int .i64 x.op,.string x.tx,.int .i64 x.to]++insCells r)[(i+1)*3+j]?=_;rw [List.getElem?_append_right so_]
    congr 1
    simp;omega
   have e0:=e 0;simp only [Nat.add_zero] at e0;rw [e0,e 1,e 2];exact this
theorem own3_form {w:World} {base:Nat} {v:Value} (h:w.ownsRow base 92 3 v is.length (insCells is)):∃ a cap,v=.slice a is.length cap/\InsAt w a is:=by
 have h':=h;rcases h.2 with ⟨hv,h0⟩ | ⟨g,cap,cur,hv,hg,hh,_⟩
 · exact ⟨none,0,by rw [hv,h0],.inl (List.length_eq_zero_iff.1 h0)⟩
 refine ⟨some ⟨g,0,none⟩,cap,hv,?_⟩;subst hv;refine .inr ⟨g,0,rfl,blk_lt hh,fun i hi=>?_⟩;obtain ⟨e0,e1,e2⟩:=insCells_get is i hi;rw [Nat.zero_add,h'.cellAt _ om_,h'.cellAt _ om_,h'.cellAt _ om_];exact ⟨e0,e1,e2⟩
end Go.Proofs.YthjhakdpikdoeaaGreatDoor
