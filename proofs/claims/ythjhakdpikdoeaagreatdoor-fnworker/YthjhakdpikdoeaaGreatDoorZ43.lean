import Derived.Test.YthjhakdpikdoeaaGreatDoorND
import Derived.Test.YthjhakdpikdoeaaGreatDoorZ22
import Derived.Test.YthjhakdpikdoeaaGreatDoorZ39
set_option maxHeartbeats 8000000
set_option maxRecDepth 100000
set_option linter.unusedVariables false
namespace Go.Proofs.YthjhakdpikdoeaaGreatDoor.G
open Proofs.Tryz
open Go.RowKit
variable {w w':World}
theorem c94w (l:List UInt8) (w:World) (hs:l.length<=1048700) (hm:MaxAt w):
 Calls prog 94 #[.string (ofL l),.string ⟨#[32]⟩] w fun e w'=>(∃ y,e=.returned (.tuple #[.string (ofL (wordOf l)),.string (ofL (restOf l)),.bool y]))/\Below w.heap.size w w':=by
 obtain ⟨_,m,hm⟩:=hm;refine (Tryz.strings_Cut (ofL l) ⟨#[32]⟩ m w (by rw [ofL_size];omega) hm).mono ?_;rintro e w' ⟨rfl,n,rfl⟩;refine ⟨⟨(Lib.cut l [32]).2.2,?_⟩,below_drewN n⟩;rw [<- cut_32,<- cut_32b];rfl
theorem c94n (l:List UInt8) (w:World) (hs:l.length<=1048700) (hm:MaxAt w):
 Calls prog 94 #[.string (ofL l),.string ⟨#[10]⟩] w fun e w'=>e=.returned (.tuple #[.string (ofL (Lib.cut l [10]).1),.string (ofL (Lib.cut l [10]).2.1),.bool (Lib.cut l [10]).2.2])/\Below w.heap.size w w':=by
 obtain ⟨_,m,hm⟩:=hm;refine (Tryz.strings_Cut (ofL l) ⟨#[10]⟩ m w (by rw [ofL_size];omega) hm).mono ?_;rintro e w' ⟨rfl,n,rfl⟩;exact ⟨rfl,below_drewN n⟩
theorem c119w (l:List UInt8) (w:World) (hs:l.length<=1048700) (hm:MaxAt w):
 Calls prog 119 #[.string (ofL l),.string ⟨#[32]⟩,.int .i64 3] w fun e w'=>(∃ cap,e=.returned (.slice (some ⟨w.heap.size,0,none⟩) (parts1 l 2).length cap)/\LinesAt w' w.heap.size (parts1 l 2))/\Below w.heap.size w w':=by
 obtain ⟨_,m,hm⟩:=hm;refine (Tryz.strings_SplitN (ofL l) ⟨#[32]⟩ 3 m w (by rw [ofL_size];omega) hm dc_ om_ om_).mono ?_;have hd:Lib.splitB ⟨#[32]⟩ 0 (min 3 ((ofL l).size+1) - 1) (ofL l)=(parts1 l 2).map ofL:=by
  refine toL_inj ?_;rw [Lib.splitB_data ⟨#[32]⟩ 0 (min 3 ((ofL l).size+1) - 1) (ofL l),ofL_size,<- parts_min l];rfl
 have hlen:(parts1 l 2).length<=min 3 ((ofL l).size+1):=by
  have:=Lib.splitB_length_le ⟨#[32]⟩ 0 (min 3 ((ofL l).size+1) - 1) (ofL l);rw [hd,List.length_map] at this;omega
 rintro e w' ⟨rfl,rfl⟩;rw [hd];refine ⟨⟨_,by rw [List.length_map],sm_,fun i hi=>?_⟩,bA⟩;have hc:(Lib.cellsOf ((parts1 l 2).map ofL) (min 3 ((ofL l).size+1)))[i]?=some (.string (ofL ((parts1 l 2).getD i []))):=by
  unfold Lib.cellsOf;rw [List.getElem?_toArray,List.getElem?_append_left (by simpa using hi)];simp [hi]
 rw [<- hc];simp
theorem c120' (l:List UInt8) (w:World) (hs:l.length<=1048700):Calls prog 120 #[.string (ofL l)] w fun e w'=>Is74 l e/\Below w.heap.size w w':=c120 (ofL l) w (by rw [ofL_size];exact hs)
theorem c87o (s:ByteArray) (b:UInt8) (w:World) (hs:s.size<=1048700):
 Calls prog 87 #[.string s,.int .u8 b.toNat] w fun e w'=>(∃ g cp,e=.returned (.slice (some ⟨g,0,none⟩) (cutS b s.data.toList).length cp)/\w'.ownsRow w.heap.size 9 1 (.slice (some ⟨g,0,none⟩) (cutS b s.data.toList).length cp) (cutS b s.data.toList).length (strL (cutS b s.data.toList)))/\Below w.heap.size w w':=by
 obtain ⟨i0,hi,hz0,hz1,hz2⟩:=info_parts info9;have hlen:s.data.toList.length=s.size:=sm_;go_enter func87,ntmps87
 go_wp2_with fail
 go_loopw [5,6,7] (fun v fr i wr=>∃ (k f:Nat),k<=s.size/\f<=k/\i=.int .i64 k/\fr=.int .i64 f/\wr.ownsRow w.heap.size 9 1 v (cstate b (s.data.toList.take k)).1.length (strL (cstate b (s.data.toList.take k)).1)/\Hid ((s.data.toList.take k).drop f=(cstate b (s.data.toList.take k)).2)/\Below w.heap.size w wr/\w.heap.size+1<=wr.heap.size) (fun _ _ i _=>s.size - (intOf i).toNat)
 case atStart=>exact ⟨0,0,Nat.zero_le _,Nat.le_refl _,rfl,rfl,World.ownsRow_lit _ #[] 0 lr_ (Nat.zero_le _) rfl,rfl,bA,sm_⟩
 obtain ⟨k,f,hk,hf,rfl,rfl,hown,hcur,hb,hz⟩:=hrel;have hL:(cstate b (s.data.toList.take k)).1.length<=k:=by
  have:=cstate_le b (s.data.toList.take k);rw [List.length_take] at this;omega
 by_cases hlt:k<s.size;rotate_left
 · have HK:Hid (s.data.toList.take k=s.data.toList):=List.take_of_length_le om_
   have HE:Hid (s.extract f s.size=ofL (cstate b (s.data.toList.take k)).2):=ext_ofL (by rw [ext_listF,<- show k=s.size by omega];exact hcur.out);have HCU:Hid (cutS b s.data.toList=(cstate b (s.data.toList.take k)).1++[(cstate b (s.data.toList.take k)).2]):=by rw [HK.out];rfl
   clear hcur;generalize cstate b (s.data.toList.take k)=st at*
   go_wp2_with (at_builtin;refine wpList_append_own _ rfl _ _ 98 rfl w.heap.size 9 i0 (.string ⟨#[]⟩) 1 16 underlying98 hi hz0 hz1 hz2 rfl dc_ _ _ _ rfl (hown.alloc _) ⟨wr.heap.size,0,none⟩ 1 1 [_] rfl rfl (cell_one_new _ _ _) (by intro u hu;simp at hu;subst hu;rfl) (by unfold maxLen;omega) om_ so_ ?_;intro v' w2 hown' hgrow _;obtain ⟨g,cp,hvv⟩:=own_formF hown' om_;subst hvv)
   go_ret;have hB2:Below w.heap.size w w2:=(hb.alloc hb.size _).grown hgrow so_ (fun j hj=>(hown.lt j hj).1);have ho2:w2.ownsRow w.heap.size 9 1 (.slice (some ⟨g,0,none⟩) (st.1.length+1) cp) (st.1.length+1) (strL (cutS b s.data.toList)):=by
    rw [HCU.out,strL_snoc,<- HE.out];exact hown'
   have hlc:(cutS b s.data.toList).length=st.1.length+1:=by rw [HCU.out];simp
   refine ⟨⟨g,cp,by rw [hlc];rfl,by rw [hlc];exact ho2⟩,hB2⟩
 have HS:Hid (cstate b (s.data.toList.take (k+1))=cst b (cstate b (s.data.toList.take k)) s[k]):=by rw [take_snoc s k hlt,cstate_snoc];rfl
 have HE:Hid (s.extract f k=ofL (cstate b (s.data.toList.take k)).2):=ext_ofL (by rw [ext_listF];exact hcur.out);by_cases hc:s[k]=b
 · have e1:((s[k].toNat:Int)==(b.toNat:Int))=true:=by rw [hc];simp
   have HC:Hid (cst b (cstate b (s.data.toList.take k)) s[k]=((cstate b (s.data.toList.take k)).1++[(cstate b (s.data.toList.take k)).2],[])):=by unfold cst;rw [if_pos hc];rfl
   have HD:Hid ((s.data.toList.take (k+1)).drop (k+1)=[]):=List.drop_of_length_le so_;clear hc hcur;generalize cstate b (s.data.toList.take k)=st at*
   go_wp2_with (at_builtin;refine wpList_append_own _ rfl _ _ 98 rfl w.heap.size 9 i0 (.string ⟨#[]⟩) 1 16 underlying98 hi hz0 hz1 hz2 rfl dc_ _ _ _ rfl (hown.alloc _) ⟨wr.heap.size,0,none⟩ 1 1 [_] rfl rfl (cell_one_new _ _ _) (by intro u hu;simp at hu;subst hu;rfl) (by unfold maxLen;omega) om_ so_ ?_;intro v' w2 hown' hgrow _)
   go_roundw
   case rel=>
    have hB2:Below w.heap.size w w2:=(hb.alloc hb.size _).grown hgrow so_ (fun j hj=>(hown.lt j hj).1);refine ⟨k+1,k+1,om_,Nat.le_refl _,by go_num,by go_num,?_,?_,hB2,by have:=hgrow.size;simp at this;omega⟩
    · rw [HS.out,HC.out,List.length_append,strL_snoc,<- HE.out]
      exact hown'
    rw [HS.out,HC.out];exact HD.out
   case measure=>simp [intOf];omega
 have e1:((s[k].toNat:Int)==(b.toNat:Int))=false:=by
  simp only [beq_eq_false_iff_ne];intro e;exact hc (UInt8.toNat_inj.1 om_)
 have HC:Hid (cst b (cstate b (s.data.toList.take k)) s[k]=((cstate b (s.data.toList.take k)).1,(cstate b (s.data.toList.take k)).2++[s[k]])):=by unfold cst;rw [if_neg hc];rfl
 have HD:Hid ((s.data.toList.take (k+1)).drop f=(s.data.toList.take k).drop f++[s[k]]):=by rw [take_snoc s k hlt,List.drop_append_of_le_length so_];rfl
 clear hc;generalize cstate b (s.data.toList.take k)=st at*;go_wp2;go_roundw
 case rel=>
  refine ⟨k+1,f,om_,om_,by go_num,rfl,?_,?_,hb,hz⟩
  · rw [HS.out,HC.out];exact hown
  rw [HS.out,HC.out,HD.out,hcur.out];rfl
 case measure=>simp [intOf];omega
theorem own_ne {B B' e e' size size' n n':Nat} {v v':Value} {xs xs':List Value} (h:w.ownsRow B e size v n xs) (h':w.ownsRow B' e' size' v' n' xs') (hne:e≠e'):v.ownBlock=none\/v.ownBlock≠v'.ownBlock:=by
 rcases h.2 with ⟨rfl,_⟩ | ⟨g,cap,cur,rfl,_,hgg,_⟩
 · exact .inl rfl
 rcases h'.2 with ⟨rfl,_⟩ | ⟨g',cap',cur',rfl,_,hgg',_⟩
 · exact .inr (by simp [Value.ownBlock])
 refine .inr fun he=>?_;simp only [Value.ownBlock,Option.some.injEq] at he;subst he;rw [hgg] at hgg';simp only [Option.some.injEq,Obj.cells.injEq] at hgg';exact hne hgg'.2.1
theorem c90' (l:List UInt8) (w:World) (hs:l.length<=1048700):
 Calls prog 90 #[.string (ofL l)] w fun e w'=>(∃ t,e=.returned (.string (ofL t))/\t.length<=l.length+1/\∀ q,l=quoteL q->t=q)/\Below w.heap.size w w':=by
 have:=c90 (ofL l) w (by rw [ofL_size];exact hs);rw [ofL_size] at this;exact this
theorem c88v (l:List UInt8) (w:World) (hs:l.length<=1048700):
 Calls prog 88 #[.string (ofL l),.int .i64 3] w fun e w'=>(∃ g cp,e=.returned (.tuple #[.slice (some ⟨g,0,none⟩) 3 cp,.string (ofL (restN l 3))])/\w.heap.size<=g/\LinesAt w' g (wordsN l 3))/\Below w.heap.size w w':=c88w (ofL l) w (by rw [ofL_size];exact hs)
theorem small_snoc {ms:List M3} {x:M3} {B:Nat} (h:∀ j,(ms.getD j m3z).le B) (hx:x.le B) (j:Nat):((ms++[x]).getD j m3z).le B:=by
 rcases Nat.lt_trichotomy j ms.length with hj | hj | hj
 · have:(ms++[x]).getD j m3z=ms.getD j m3z:=by simp [List.getD,List.getElem?_append_left hj]
   rw [this];exact h j
 · subst hj
   have:(ms++[x]).getD ms.length m3z=x:=by simp [List.getD]
   rw [this];exact hx
 have:(ms++[x]).getD j m3z=m3z:=by simp [List.getD,List.getElem?_eq_none (show (ms++[x]).length<=j by simp;omega)]
 rw [this];exact ⟨Nat.zero_le _,Nat.zero_le _,Nat.zero_le _⟩
theorem cell_grown {row:Option Nat} (hg:w.grownBy w' row) {p:Addr} (hp:p.block<w.heap.size) (hne:some p.block≠row):w'.cell? p=w.cell? p:=by
 unfold World.cell?;rw [hg.block p.block hp hne]
def Is10 (l:List UInt8) (e:Ending) (w':World):Prop:=∃ (ms:List M3) (ok:Bool) (a:Option Addr) (cap:Nat),e=.returned (.tuple #[.slice a ms.length cap,.bool ok])/\MksAt w' a ms/\IsPlan l ms ok
theorem c122 (s:ByteArray) (w:World) (hs:s.size<=1048576):
 Calls prog 122 #[.string s] w fun e w'=>Is10 s.data.toList e w'/\Below w.heap.size w w':=by
 have hlen:s.data.toList.length=s.size:=sm_;obtain ⟨i0,hi,hz0,hz1,hz2⟩:=info_parts info24;by_cases h300:300<s.size
 · have HR:Hid (IsPlan s.data.toList [] false):=read_long om_
   go_enter func122,ntmps122;go_wp2;go_ret2;exact ⟨⟨[],false,_,_,rfl,.inl rfl,HR.out⟩,bA⟩
 go_enter func122,ntmps122
 go_wp2_with fail
 refine (c87o s 10 _ om_).mono ?_;rintro e w1 ⟨⟨g,cp,rfl,hln⟩,hb1⟩;have hx1:Below w.heap.size w w1:=bA.trans (hb1.mono sm_);have hz1':w.heap.size+1<=w1.heap.size:=by have:=hb1.size;simpa using this
 have hrow0:w1.ownsRow w.heap.size 24 3 (.slice (some ⟨w.heap.size,0,none⟩) 0 0) 0 (mkCells []):=ownsRow_below (World.ownsRow_lit _ #[] 0 lr_ (Nat.zero_le _) rfl) hb1;have hln1:w1.ownsRow w.heap.size 9 1 (.slice (some ⟨g,0,none⟩) (cutS 10 s.data.toList).length cp) (cutS 10 s.data.toList).length (strL (cutS 10 s.data.toList)):=owns_mono hln sm_;obtain ⟨hn1,hn2⟩:=cut_len 10 s.data.toList;have HCS:Hid (∀ k,((cutS 10 s.data.toList).getD k []).length<=s.data.toList.length):=cut_small 10 s.data.toList;clear hb1 hln
 go_wp2_with fail
 generalize hLs:cutS 10 s.data.toList=Ls at*;have HLs:Hid (cutS 10 s.data.toList=Ls):=hLs;clear hLs;go_loopw [4,6] (fun v i wr=>∃ (k:Nat) (ms:List M3),k+1<=Ls.length/\i=.int .i64 k/\ms.length=k/\Hid (Sofar s.data.toList ms k)/\Hid (∀ j,(ms.getD j m3z).le 1048576)/\wr.ownsRow w.heap.size 24 3 v ms.length (mkCells ms)/\wr.ownsRow w.heap.size 9 1 (.slice (some ⟨g,0,none⟩) Ls.length cp) Ls.length (strL Ls)/\Below w.heap.size w wr/\w.heap.size+1<=wr.heap.size) (fun _ i _=>Ls.length - (intOf i).toNat)
 case atStart=>exact ⟨0,[],om_,rfl,rfl,sofar_start _,(fun j=>⟨Nat.zero_le _,Nat.zero_le _,Nat.zero_le _⟩),hrow0,hln1,hx1,hz1'⟩
 obtain ⟨k,ms,hk,rfl,hisl,hso,htx,hown,hrow,hb,hzr⟩:=hrel;subst hisl;obtain ⟨ao,co,hv⟩:=row_form3 hown;subst hv;by_cases hlt:ms.length+1<Ls.length;rotate_left
 · obtain ⟨E1,E2⟩:=sofar_end hso.out rfl (by rw [HLs.out];omega) om_
   have HE1:Hid (formP ms=s.data.toList->IsPlan s.data.toList ms true):=E1;have HE2:Hid (formP ms≠s.data.toList->IsPlan s.data.toList [] false):=E2;clear E1 E2;obtain ⟨ao',cap',hv',hat⟩:=own3_form hown;injection hv' with h1 h2 h3;subst h1 h3;have HAT:Hid (MksAt wr ao ms):=hat;have hmm:ms.length<=1048576:=om_;have HC:=c49 ao co ms wr htx.out hmm hat;clear hat
   go_wp2_with fail
   refine HC.mono ?_;rintro e w5 ⟨rfl,hb5⟩;have hB5:Below w.heap.size w w5:=bT hb hb5;have HAT5:Hid (MksAt w5 ao ms):=mks_below HAT.out hb5;clear HC;by_cases hf:formP ms=s.data.toList
   · have HR:Hid (IsPlan s.data.toList ms true):=HE1.out hf
     have e2:(ofL (formP ms)).toList=s.toList:=by rw [hf,ByteArray.toList_eq,ByteArray.toList_eq];rfl
     have e1:((ofL (formP ms)).toList==s.toList)=true:=by simpa using e2
     clear HE1 HE2 hf;go_wp2;go_ret2;exact ⟨⟨ms,true,_,_,rfl,HAT5.out,HR.out⟩,hB5⟩
   have HR:Hid (IsPlan s.data.toList [] false):=HE2.out hf;have e2:¬ (ofL (formP ms)).toList=s.toList:=by rw [ByteArray.toList_eq,ByteArray.toList_eq];simpa [ofL] using hf
   have e1:((ofL (formP ms)).toList==s.toList)=false:=by simpa using e2
   clear HE1 HE2 hf;go_wp2;go_ret2;exact ⟨⟨[],false,_,_,rfl,.inl rfl,HR.out⟩,hB5.alloc hB5.size _⟩
 have hlnr:=lines_of_owns hrow rfl;have l0:=hlnr.2 ms.length om_;have hLl:=HCS.out ms.length;have hPar:=fun (t:List UInt8) ht=>parsed (l:=Ls.getD ms.length []) (t:=t) ht;generalize hL:Ls.getD ms.length []=L at*;have HL:Hid (Ls.getD ms.length []=L):=hL;clear hL;have hiB:(ms.length:Int)<(Ls.length:Int):=om_
 go_wp2_with fail
 refine (c88v L _ om_).mono ?_;rintro e w2 ⟨⟨g2,cp2,rfl,hg2,hln2⟩,hb2⟩;have hB2:Below w.heap.size w w2:=bT hb hb2;have hown2:=ownsRow_below hown hb2;have hrow2:=ownsRow_below hrow hb2;have hz2':w.heap.size+1<=w2.heap.size:=Nat.le_trans hzr hb2.size;have q1:w2.cell? ⟨g2,1,none⟩=some (.string (ofL (wordOf (restN L 1)))):=hln2.2 1 (by simp [wordsN]);have q2:w2.cell? ⟨g2,2,none⟩=some (.string (ofL (wordOf (restN L 2)))):=hln2.2 2 (by simp [wordsN]);have hg2l:g2<w2.heap.size:=hln2.1;have r1:=restN_len L 1;have r2:=restN_len L 2;have r3:=restN_len L 3;have r1':=(rest_small (restN L 1)).1;have r2':=(rest_small (restN L 2)).1;generalize hA:wordOf (restN L 1)=A at*;generalize hBB:wordOf (restN L 2)=B at*;generalize hQ:restN L 3=Q at*;clear hA hBB hQ hln2 hlnr l0
 go_wp2_with fail
 refine wp_region_held_drew (S:=(fun u=>u.cell? ⟨g2,1,none⟩=some (.string (ofL A))/\u.cell? ⟨g2,2,none⟩=some (.string (ofL B)))) kr_ ?_ fun hH=>?_
 · ((try dsimp only);go_keep)
 refine tq 0 hH ?_;refine tq 1 hH ?_;refine tq 2 hH ?_;refine tq 3 hH ?_;refine tq 4 hH ?_;refine tq 5 hH ?_;refine tq 6 hH ?_;refine tq 7 hH ?_
 try simp only [qq]
 refine rq 8 fun K hK=>?_;go_simp;refine (c90' Q _ om_).mono ?_;rintro e w3 ⟨⟨t,rfl,htl,htq⟩,hb3⟩;have HB3:Hid (Below w2.heap.size w2 w3):=(Below.refl _ _).drew.trans hb3;have e1:=(HB3.out.cell (p:=⟨g2,1,none⟩) (by exact hg2l)).trans q1;have e2:=(HB3.out.cell (p:=⟨g2,2,none⟩) (by exact hg2l)).trans q2;have hown3:=ownsRow_below hown2 HB3.out;have hrow3:=ownsRow_below hrow2 HB3.out;have hz3':w2.heap.size<=w3.heap.size:=HB3.out.size;have e1a:=past (by show g2<w3.heap.size;omega) e1;have e2a:=past (by show g2<w3.heap.size;omega) e2
 go_wp2_with fail
 clear hH;refine hK.out _ _ ?_ fun hH=>?_
 · ((try dsimp only);go_keep)
 clear hK K;refine tq 9 hH ?_
 try simp only [qq]
 refine rq 10 fun K hK=>?_;go_simp;clear hH;refine hK.out _ _ ?_ fun hH=>?_
 · ((try dsimp only);go_keep)
 clear hK K
 try simp only [qq]
 refine rq 11 fun K hK=>?_;refine step_app rfl (.tmp 31) (.tmp 41) 94 rfl w.heap.size 24 i0 (.agg #[.string ⟨#[]⟩,.string ⟨#[]⟩,.string ⟨#[]⟩]) 3 48 underlying94 hi hz0 hz1 hz2 rfl dc_ _ _ _ rfl (hown3.alloc _) ⟨w3.heap.size,0,none⟩ 1 1 [_,_,_] rfl rfl (row3g rfl _ _ _ _) (by intro u hu;simp at hu;rcases hu with rfl | rfl | rfl <;> rfl) (by unfold maxLen;omega) om_ so_ ?_;intro v' w4 hown4 hgrow;have hB4:Hid (Below w.heap.size w w4):=(((bT hB2 HB3.out).alloc om_ _).grown hgrow so_ (fun j hj=>(hown3.lt j hj).1));have hrow4:Hid (w4.ownsRow w.heap.size 9 1 (.slice (some ⟨g,0,none⟩) Ls.length cp) Ls.length (strL Ls)):=(hrow3.alloc _).kept hgrow (own_ne hrow3 hown3 dc_);have f1:=(cell_grown hgrow (p:=⟨g2,1,none⟩) so_ (fun e=>by have:=(hown.lt _ e.symm).2;simp at this;omega)).trans (e1a _);have f2:=(cell_grown hgrow (p:=⟨g2,2,none⟩) so_ (fun e=>by have:=(hown.lt _ e.symm).2;simp at this;omega)).trans (e2a _);have hz4:w3.heap.size+1<=w4.heap.size:=by have:=hgrow.size;simp at this;omega
 clear hgrow;clear hH;refine hK.out _ _ ?_ fun hH=>?_
 · ((try dsimp only);go_keep)
 clear hK K;refine tq 12 hH ?_
 try simp only [qq]
 refine wpAnyH_done kr_ ?_ _;clear hH;have HSO:Hid (Sofar s.data.toList (ms++[⟨ofL A,ofL B,ofL t⟩]) (ms.length+1)):=sofar_step hso.out (by rw [HLs.out];exact hlt) (by rw [HLs.out,HL.out];exact hPar t htq);have HTX:Hid (∀ j,((ms++[(⟨ofL A,ofL B,ofL t⟩:M3)]).getD j m3z).le 1048576):=small_snoc htx.out ⟨by rw [ofL_size];omega,by rw [ofL_size];omega,by rw [ofL_size];omega⟩;go_wp2;go_roundw
 case rel=>
  refine ⟨ms.length+1,ms++[(⟨ofL A,ofL B,ofL t⟩:M3)],om_,by go_num,sm_,HSO,HTX,?_,hrow4.out,hB4.out,om_⟩;rw [mkCells_snoc,List.length_append];exact hown4
 case measure=>simp [intOf];omega
end Go.Proofs.YthjhakdpikdoeaaGreatDoor.G
namespace Go.Proofs.YthjhakdpikdoeaaGreatDoor.G
open Proofs.Tryz
open Go.RowKit
open T (lt cmpB cmpB_neg cmpB_zero lt_trans' lt_irrefl')
variable {ms:List M3} {nm t:ByteArray} {b i j p:Nat} {f:Bool} {u w:World} {v:Value}
structure PlaceM (ms:List M3) (t:ByteArray) (p:Nat) (f:Bool):Prop where
 le:p<=ms.length
 less:∀ j,j<p->lt (ms.getD j m3z).nm t=true
 more:∀ j,p<=j->j<ms.length->lt (ms.getD j m3z).nm t=false
 here:f=true↔p<ms.length/\(ms.getD p m3z).nm=t
def AscM (ms:List M3):Prop:=∀ i j,i<j->j<ms.length->lt (ms.getD i m3z).nm (ms.getD j m3z).nm=true
def Is42 (ms:List M3) (nm:ByteArray) (e:Ending):Prop:=∃ (x:M3) (there:Bool),e=.returned (.tuple #[.agg #[.string x.nm,.string x.tl,.string x.ar],.bool there])/\((there=true/\∃ i,i<ms.length/\ms.getD i m3z=x/\x.nm=nm)\/(there=false/\∀ j,j<ms.length->(ms.getD j m3z).nm≠nm))
open T (F2 f2z treeOk Asc FilesAt)
theorem set2_at' (u:World) (B:Nat) (v0 v1 x0 x1:Value) (h0:u.cell? ⟨B,0,none⟩=some x0) (h1:u.cell? ⟨B,1,none⟩=some x1):
 ((u.setCell ⟨B,0,none⟩ v0).setCell ⟨B,1,none⟩ v1).cell? ⟨B,0,none⟩=some v0/\((u.setCell ⟨B,0,none⟩ v0).setCell ⟨B,1,none⟩ v1).cell? ⟨B,1,none⟩=some v1:=by
 have a1:(u.setCell ⟨B,0,none⟩ v0).cell? ⟨B,1,none⟩=some x1:=by rw [World.cell?_setCell_other _ _ _ _ (adr_ne om_)];exact h1
 refine ⟨?_,World.cell?_setCell_same _ _ _ a1⟩;rw [World.cell?_setCell_other _ _ _ _ (adr_ne om_)];exact World.cell?_setCell_same _ _ _ h0
open T (F2 f2z FilesAt Asc files_below)
def FreeM (ms:List M3) (nm:ByteArray):Prop:=∀ j,j<ms.length->(ms.getD j m3z).nm≠nm
def Is44 (fs:List F2) (ms:List M3) (nm:ByteArray) (e:Ending):Prop:=∃ r,e=.returned (.bool r)/\(r=true↔¬ (Free fs nm/\FreeM ms nm))
theorem cell_al (h:b<w.heap.size) (j:Nat) (o:Obj):(w.alloc o).cell? ⟨b,j,none⟩=w.cell? ⟨b,j,none⟩:=((Below.refl _ w).alloc lr_ o).cell (by exact h)
theorem rzU (hb:Below (w.heap.size+2) ((w.alloc (.cells #[v] 51)).alloc (.cells #[.int .i64 0,.string ⟨#[]⟩] 27)) u):
 u.cell? ⟨w.heap.size,0,none⟩=some v/\(u.cell? ⟨w.heap.size+1,0,none⟩=some (.int .i64 0)/\u.cell? ⟨w.heap.size+1,1,none⟩=some (.string ⟨#[]⟩))/\u.frozen? ⟨w.heap.size+1,0,none⟩=false/\u.frozen? ⟨w.heap.size+1,1,none⟩=false:=by
 have c:∀ b j,b<w.heap.size+2->u.cell? ⟨b,j,none⟩=((w.alloc (.cells #[v] 51)).alloc (.cells #[.int .i64 0,.string ⟨#[]⟩] 27)).cell? ⟨b,j,none⟩:=fun b j h=>hb.cell (by exact h);have f:∀ b j,b<w.heap.size+2->u.frozen? ⟨b,j,none⟩=((w.alloc (.cells #[v] 51)).alloc (.cells #[.int .i64 0,.string ⟨#[]⟩] 27)).frozen? ⟨b,j,none⟩:=fun b j h=>hb.frozen (by exact h);rw [c _ _ om_,c _ _ om_,c _ _ om_,f _ _ om_,f _ _ om_];simp [go_sem]
def Is43 (fs:List F2) (nm:ByteArray) (e:Ending):Prop:=∃ (c:Int) (t:ByteArray),e=.returned (.agg #[.int .i64 c,.string t])/\((c=0/\∃ i,i<fs.length/\(fs.getD i f2z).nm=nm/\t=(fs.getD i f2z).tx)\/(c=4/\t=nm/\Free fs nm))
theorem tree_text {fs:List F2} (h:treeOk fs) (hi:i<fs.length):(fs.getD i f2z).tx.size<=300:=by
 have:=h.2 i hi;unfold T.stepOk at this;simp only [Bool.and_eq_true] at this;have h1:=this.1;unfold T.fileOk at h1;simp only [Bool.and_eq_true,decide_eq_true_eq] at h1;have:=h1.2;omega
def Is7 (w:World) (fs:List F2) (e:Ending) (w':World):Prop:=∃ (ms:List M3) (v:Value),e=.returned v/\w'.ownsRow w.heap.size 24 3 v ms.length (mkCells ms)/\IsPT fs ms
def Is5 (fs:List F2) (e:Ending) (w':World):Prop:=∃ (ms:List M3) (a:Option Addr) (cap:Nat),e=.returned (.slice a ms.length cap)/\MksAt w' a ms/\IsPT fs ms
theorem c97 (a:Option Addr) (cap:Nat) (fs:List F2) (w:World) (hl:fs.length<=1048576) (hs:∀ i,(fs.getD i f2z).le 1048576) (hat:FilesAt w a fs):
 Calls prog 97 #[.agg #[.slice a fs.length cap]] w fun e w'=>Is5 fs e w'/\Below w.heap.size w w':=by
 have HAT:Hid (FilesAt w a fs):=hat;have hB0:Below w.heap.size w (w.alloc (.cells #[.slice a fs.length cap] 51)):=bA;have h14:=T.c121 a cap fs planA _ hl (T.files_below hat hB0);clear hat;unfold planA at h14;go_enter func97,ntmps97
 go_wp2_with fail
 refine h14.mono ?_;rintro e w1 ⟨⟨r,rfl,hr⟩,hb1⟩;have hx1:Below (w.heap.size+1) (w.alloc (.cells #[.slice a fs.length cap] 51)) w1:=by have h:=hb1;simp at h;exact h
 have hB1:Below w.heap.size w w1:=hB0.trans (hx1.mono om_);have hz1:w.heap.size+1<=w1.heap.size:=by have:=hx1.size;simpa using this
 have t1:w1.cell? ⟨w.heap.size,0,none⟩=some (.slice a fs.length cap):=(hx1.cell (p:=⟨w.heap.size,0,none⟩) sm_).trans (by simp [go_sem]);have h15:=T.c99 a cap fs w1 hl hs (T.files_below HAT.out hB1);clear hb1 h14
 go_wp2_with fail
 refine h15.mono ?_;rintro e w2 ⟨⟨b,rfl,hb⟩,hb2⟩;have hB2:Below w.heap.size w w2:=bT hB1 hb2;have hz2:w1.heap.size<=w2.heap.size:=hb2.size;have t2:w2.cell? ⟨w.heap.size,0,none⟩=some (.slice a fs.length cap):=(hb2.cell (p:=⟨w.heap.size,0,none⟩) (by show w.heap.size<w1.heap.size;omega)).trans t1;clear h15 hb2 t1;cases b
 · have HR:Hid (IsPT fs []):=.inl ⟨(fun h=>by have:=hb.2 h;cases this),rfl⟩
   clear hb hr;go_wp2;go_ret;exact ⟨⟨[],_,_,rfl,.inl rfl,HR.out⟩,hB2.alloc hB2.size _⟩
 have HOK:Hid (treeOk fs):=hb.1 rfl;clear hb;rcases hr with ⟨rfl,hno⟩ | ⟨i,rfl,hi,hnm⟩
 · have HR:Hid (IsPT fs []):=.inr (.inl ⟨HOK.out,hno,rfl⟩)
   clear hno;go_wp2;go_ret;exact ⟨⟨[],_,_,rfl,.inl rfl,HR.out⟩,hB2.alloc hB2.size _⟩
 have hxt:=tree_text HOK.out hi;have HNO:Hid (∀ ks ok,IsPlan (fs.getD i f2z).tx.data.toList ks ok->¬ (ok=true/\FreeAll fs ks)->IsPT fs []):=fun ks ok hp hn=>.inr (.inr ⟨HOK.out,i,hi,hnm,ks,ok,hp,.inr ⟨hn,rfl⟩⟩);have HYES:Hid (∀ ks,IsPlan (fs.getD i f2z).tx.data.toList ks true->FreeAll fs ks->IsPT fs ks):=fun ks hp hn=>.inr (.inr ⟨HOK.out,i,hi,hnm,ks,true,hp,.inl ⟨rfl,hn,rfl⟩⟩);obtain ⟨bf,off,hc⟩:=T.files_some (T.files_below HAT.out hB2);rcases hc with hss | ⟨ha,hbw,hcell⟩
 · rw [hss] at hi;exact absurd hi (Nat.not_lt_zero _)
 subst ha;have g1:=(hcell i hi).2;have HX:Hid (∃ x,x=fs.getD i f2z):=⟨_,rfl⟩;obtain ⟨x,hx⟩:=HX.out;rw [<- hx] at g1 HNO HYES hxt;clear hcell HX hx hnm
 go_wp2_with fail
 refine (c122 x.tx _ om_).mono ?_;rintro e w3 ⟨⟨ms,ok,am,cm,rfl,hatm,hp⟩,hb3⟩;have hB3:Below w.heap.size w w3:=bT hB2 hb3;have hz3:w2.heap.size<=w3.heap.size:=hb3.size;have t3:=(hb3.cell (p:=⟨w.heap.size,0,none⟩) (by show w.heap.size<w2.heap.size;omega)).trans t2;have HP:Hid (IsPlan x.tx.data.toList ms ok):=hp;obtain ⟨hml,hms⟩:=isPlan_len hp;have HATM:Hid (MksAt w3 am ms):=hatm;clear hp hb3 t2 hatm
 go_wp2_with fail
 go_loopw [5,6] (fun o i wr=>∃ (k:Nat) (b:Bool),k<=ms.length/\i=.int .i64 k/\o=.bool b/\Hid (b=true↔ok=true/\∀ j,j<k->Free fs (ms.getD j m3z).nm)/\Below w3.heap.size w3 wr) (fun _ i _=>ms.length - (intOf i).toNat)
 case atStart=>exact ⟨0,ok,Nat.zero_le _,rfl,rfl,⟨fun h=>⟨h,fun j h=>absurd h (Nat.not_lt_zero _)⟩,fun h=>h.1⟩,Below.refl _ _⟩
 obtain ⟨k,b,hk,rfl,rfl,hfr,hbr⟩:=hrel;have hBr:Below w.heap.size w wr:=bT hB3 hbr;have hzr:w3.heap.size<=wr.heap.size:=hbr.size;have tr:=(hbr.cell (p:=⟨w.heap.size,0,none⟩) (by show w.heap.size<w3.heap.size;omega)).trans t3;by_cases hlt:k<ms.length;rotate_left
 · obtain rfl:k=ms.length:=om_
   cases b
   · have HR:Hid (IsPT fs []):=HNO.out _ _ HP.out (fun h=>by have:=hfr.out.2 h;cases this)
     clear HNO HYES;go_wp2;go_ret;exact ⟨⟨[],_,_,rfl,.inl rfl,HR.out⟩,hBr.alloc hBr.size _⟩
   obtain ⟨h1,h2⟩:=hfr.out.1 rfl;subst h1;have HR:Hid (IsPT fs ms):=HYES.out _ HP.out h2;have HATR:Hid (MksAt wr am ms):=mks_below HATM.out hbr;clear HNO HYES h2;go_wp2;go_ret;exact ⟨⟨ms,_,_,rfl,HATR.out,HR.out⟩,hBr⟩
 cases b
 · have hfr':Hid (false=true↔ok=true/\∀ j,j<k+1->Free fs (ms.getD j m3z).nm):=⟨(fun h=>by cases h),fun h=>hfr.out.2 ⟨h.1,fun j hj=>h.2 j om_⟩⟩
   go_wp2_with fail
   refine wp_region_held_drew (S:=(fun _=>True)) kr_ ?_ fun hHeld=>?_
   · ((try dsimp only);(first | done | trivial))
   refine tq 0 hHeld ?_
   try simp only [qq]
   refine tq 1 hHeld ?_
   try simp only [qq]
   refine uq 2 hHeld ?_
   try simp only [qq]
   refine uq 3 hHeld ?_
   try simp only [qq]
   refine uq 4 hHeld ?_
   try simp only [qq]
   refine uq 5 hHeld ?_
   try simp only [qq]
   refine uq 6 hHeld ?_
   try simp only [qq]
   refine uq 7 hHeld ?_
   try simp only [qq]
   refine uq 8 hHeld ?_
   try simp only [qq]
   refine uq 9 hHeld ?_
   try simp only [qq]
   refine tq 10 hHeld ?_
   try simp only [qq]
   refine tq 11 hHeld ?_
   try simp only [qq]
   refine wpAnyH_done kr_ ?_ _;clear hHeld;go_wp2;go_roundw
   case rel=>exact ⟨k+1,false,om_,by go_num,rfl,hfr',hbr.drew⟩
   case measure=>simp [intOf];omega
 obtain ⟨bm,om,hc⟩:=mks_some (mks_below HATM.out hbr);rcases hc with hss | ⟨hao,hbmw,hcell⟩
 · rw [hss] at hlt;exact absurd hlt (Nat.not_lt_zero _)
 subst hao;have g0:=(hcell k hlt).1;have HX:Hid (∃ y,y=ms.getD k m3z):=⟨_,rfl⟩;obtain ⟨y,hy⟩:=HX.out;rw [<- hy] at g0;have HY:Hid (y=ms.getD k m3z):=hy;clear hy HX hcell;have hwz:w.heap.size<wr.heap.size:=om_;have h14:=fun u (hu:Below w.heap.size w u)=>T.c121 (some ⟨bf,off,none⟩) cap fs y.nm u hl (T.files_below HAT.out hu)
 go_wp2_with fail
 refine wp_region_held_drew (S:=(fun u=>u.cell? ⟨w.heap.size,0,none⟩=some (.slice (some ⟨bf,off,none⟩) fs.length cap)/\u.cell? ⟨bm,om+k*3,none⟩=some (.string y.nm))) kr_ ?_ fun hHeld=>?_
 · ((try dsimp only);go_keep)
 refine tq 0 hHeld ?_
 try simp only [qq]
 refine tq 1 hHeld ?_
 try simp only [qq]
 refine tq 2 hHeld ?_
 try simp only [qq]
 refine tq 3 hHeld ?_
 try simp only [qq]
 refine tq 4 hHeld ?_
 try simp only [qq]
 refine tq 5 hHeld ?_
 try simp only [qq]
 refine tq 6 hHeld ?_
 try simp only [qq]
 refine tq 7 hHeld ?_
 try simp only [qq]
 refine rq 8 fun K hK=>?_;go_simp;refine (h14 _ hBr.drew).mono ?_;rintro e w4 ⟨⟨r4,rfl,hr4⟩,hb4⟩;have HB4:Hid (Below wr.heap.size wr w4):=(Below.refl _ _).drew.trans hb4;have HR4:Hid ((r4=-1/\∀ i,i<fs.length->(fs.getD i f2z).nm≠y.nm)\/∃ i:Nat,r4=i/\i<fs.length/\(fs.getD i f2z).nm=y.nm):=hr4;clear hr4;have e1:=(HB4.out.cell (p:=⟨w.heap.size,0,none⟩) (by exact hwz)).trans tr;have e2:=(HB4.out.cell (p:=⟨bm,om+k*3,none⟩) (by exact hbmw)).trans g0
 go_wp2_with fail
 clear hHeld;refine hK.out _ _ ?_ fun hHeld=>?_
 · ((try dsimp only);go_keep)
 clear hK K;refine tq 9 hHeld ?_
 try simp only [qq]
 refine tq 10 hHeld ?_
 try simp only [qq]
 refine tq 11 hHeld ?_
 try simp only [qq]
 refine wpAnyH_done kr_ ?_ _;clear hHeld;have hb3r:Below w3.heap.size w3 w4:=hbr.trans (HB4.out.mono hzr);have HF:Hid (decide (r4<0)=true↔ok=true/\∀ j,j<k+1->Free fs (ms.getD j m3z).nm):=by
  constructor
  · intro h
    have h:=of_decide_eq_true h;refine ⟨(hfr.out.1 (by first | rfl | trivial)).1,fun j hj=>?_⟩;rcases Nat.lt_or_ge j k with h1 | h1
    · exact (hfr.out.1 (by first | rfl | trivial)).2 j h1
    obtain rfl:j=k:=om_;rw [<- HY.out];rcases HR4.out with ⟨_,h2⟩ | ⟨i4,h2,_⟩
    · exact h2
    omega
  intro h;apply decide_eq_true;rcases HR4.out with ⟨h2,_⟩ | ⟨i4,h2,h3,h4⟩
  · omega
  exact absurd (by rw [<- HY.out];exact h4) (h.2 k om_ i4 h3)
 go_wp2;go_roundw
 case rel=>exact ⟨k+1,decide (r4<0),om_,by go_num,rfl,HF,hb3r⟩
 case measure=>simp [intOf];omega
open T (F2 f2z FilesAt Asc files_below treeOk lt lt_trans')
theorem asc_plan (h:planOk ms=true):AscM ms:=by
 have h2:=((plan_iff ms).1 h).2;have step:∀ j,j+1<ms.length->lt (ms.getD j m3z).nm (ms.getD (j+1) m3z).nm=true:=fun j hj=>by
  have:=h2 (j+1) hj;unfold stepM at this;simp only [Bool.and_eq_true,Bool.or_eq_true,decide_eq_true_eq] at this;rcases this.2 with h | h
  · omega
  exact h
 intro i j hij
 induction j with
 | zero=>omega
 | succ j ih=>
  intro hj;rcases Nat.lt_or_ge i j with h1 | h1
  · exact lt_trans' (ih h1 om_) (step j hj)
  obtain rfl:i=j:=om_;exact step i hj
theorem asc_nil:AscM []:=fun _ _ _ h=>absurd h (Nat.not_lt_zero _)
theorem isPT_asc {fs:List F2} (h:IsPT fs ms):AscM ms:=by
 rcases h with ⟨_,rfl⟩ | ⟨_,_,rfl⟩ | ⟨_,i,hi,hn,ks,ok,hp,hr⟩
 · exact asc_nil
 · exact asc_nil
 rcases hr with ⟨rfl,_,rfl⟩ | ⟨_,rfl⟩
 · exact asc_plan (hp.1 rfl).1
 exact asc_nil
theorem ascM_once (hm:AscM ms) (hi:i<ms.length) (hj:j<ms.length) (e:(ms.getD i m3z).nm=(ms.getD j m3z).nm):i=j:=by
 rcases Nat.lt_trichotomy i j with h1 | h1 | h1
 · have:=hm i j h1 hj
   rw [e,T.lt_irrefl'] at this;cases this
 · exact h1
 have:=hm j i h1 hi;rw [e,T.lt_irrefl'] at this;cases this
theorem rzN (hb:Below (w.heap.size+2) ((w.alloc (.cells #[v] 51)).alloc (.cells #[.string ⟨#[]⟩,.string ⟨#[]⟩,.string ⟨#[]⟩] 24)) u):
 (u.cell? ⟨w.heap.size+1,0,none⟩=some (.string ⟨#[]⟩)/\u.cell? ⟨w.heap.size+1,1,none⟩=some (.string ⟨#[]⟩)/\u.cell? ⟨w.heap.size+1,2,none⟩=some (.string ⟨#[]⟩))/\u.frozen? ⟨w.heap.size+1,0,none⟩=false/\u.frozen? ⟨w.heap.size+1,1,none⟩=false/\u.frozen? ⟨w.heap.size+1,2,none⟩=false:=by
 have c:∀ b j,b<w.heap.size+2->u.cell? ⟨b,j,none⟩=((w.alloc (.cells #[v] 51)).alloc (.cells #[.string ⟨#[]⟩,.string ⟨#[]⟩,.string ⟨#[]⟩] 24)).cell? ⟨b,j,none⟩:=fun b j h=>hb.cell (by exact h);have f:∀ b j,b<w.heap.size+2->u.frozen? ⟨b,j,none⟩=((w.alloc (.cells #[v] 51)).alloc (.cells #[.string ⟨#[]⟩,.string ⟨#[]⟩,.string ⟨#[]⟩] 24)).frozen? ⟨b,j,none⟩:=fun b j h=>hb.frozen (by exact h);rw [c _ _ om_,c _ _ om_,c _ _ om_,f _ _ om_,f _ _ om_,f _ _ om_];simp [go_sem]
def Is16 (fs:List F2) (nm:ByteArray) (e:Ending):Prop:=∃ ms,IsPT fs ms/\Is42 ms nm e
theorem c177 (a:Option Addr) (cap:Nat) (fs:List F2) (nm:ByteArray) (w:World) (hl:fs.length<=1048576) (hs:∀ i,(fs.getD i f2z).le 1048576) (hat:FilesAt w a fs):
 Calls prog 177 #[.agg #[.slice a fs.length cap],.string nm] w fun e w'=>Is16 fs nm e/\Below w.heap.size w w':=by
 have h33:=fun u (hb:Below w.heap.size w u)=>c97 a cap fs u hl hs (files_below hat hb);have hB0:∀ o1 o2,Below w.heap.size w ((w.alloc o1).alloc o2):=fun o1 o2=>bA.alloc sm_ _;go_enter func177,ntmps177
 go_wp2_with fail
 refine (h33 _ (hB0 _ _)).mono ?_;rintro e w1 ⟨⟨ms,a1,cap1,rfl,hm1,hpt⟩,hb1⟩;have hB1:Below w.heap.size w w1:=(hB0 _ _).trans (hb1.mono so_);have hx1:Below (w.heap.size+2) ((w.alloc (.cells #[.slice a fs.length cap] 51)).alloc (.cells #[.string ⟨#[]⟩,.string ⟨#[]⟩,.string ⟨#[]⟩] 24)) w1:=by have h:=hb1;simp at h;exact h
 obtain ⟨⟨z0,z1,z2⟩,y0,y1,y2⟩:=rzN hx1;have hlm:=isPT_len hpt;obtain ⟨b,off,hc⟩:=mks_some hm1;have HC:Hid (ms=[]\/(a1=some ⟨b,off,none⟩/\b<w1.heap.size/\∀ i,i<ms.length->w1.cell? ⟨b,off+i*3,none⟩=some (.string (ms.getD i m3z).nm)/\w1.cell? ⟨b,off+i*3+1,none⟩=some (.string (ms.getD i m3z).tl)/\w1.cell? ⟨b,off+i*3+2,none⟩=some (.string (ms.getD i m3z).ar))):=hc;have HP:Hid (IsPT fs ms):=hpt;clear hc hm1 hpt h33 hb1 hx1 hat hs
 go_wp2_with fail
 go_loop [7] (fun i=>∃ k:Nat,k<=ms.length/\i=.int .i64 k/\Hid (∀ j,j<k->(ms.getD j m3z).nm≠nm)) (fun i=>ms.length - (intOf i).toNat)
 case atStart=>exact ⟨0,Nat.zero_le _,rfl,fun j h=>absurd h (Nat.not_lt_zero _)⟩
 obtain ⟨k,hk,rfl,hno⟩:=hrel;by_cases hlt:k<ms.length;rotate_left
 · have HI:Hid (Is16 fs nm (.returned (.tuple #[.agg #[.string ⟨#[]⟩,.string ⟨#[]⟩,.string ⟨#[]⟩],.bool false]))):=⟨ms,HP.out,⟨⟨#[]⟩,⟨#[]⟩,⟨#[]⟩⟩,false,rfl,.inr ⟨rfl,fun j hj=>hno.out j om_⟩⟩
   go_wp2;have F:=set3_at w1 (w.heap.size+1) 0 (.string ⟨#[]⟩) (.string ⟨#[]⟩) (.string ⟨#[]⟩) _ _ _ z0 z1 z2;refine bodyPost_ret (v:=.tuple #[.agg #[.string ⟨#[]⟩,.string ⟨#[]⟩,.string ⟨#[]⟩],.bool false]) (by simp [results,Tryz.results177,go_sem,F.1,F.2.1,F.2.2]) rfl ⟨HI.out,?_⟩;exact ((hB1.setCell sm_ _).setCell sm_ _).setCell sm_ _
 rcases HC.out with hss | ⟨ha,hbw,hcell⟩
 · rw [hss] at hlt;exact absurd hlt (Nat.not_lt_zero _)
 subst ha;obtain ⟨g0,g1,g2⟩:=hcell k hlt;have HX:Hid (∃ x,x=ms.getD k m3z):=⟨_,rfl⟩;obtain ⟨x,hx⟩:=HX.out;rw [<- hx] at g0 g1 g2;have HXE:Hid (x=ms.getD k m3z):=hx;clear hcell hx HX;cases hq:(x.nm.toList==nm.toList)
 · have hno':Hid (∀ j,j<k+1->(ms.getD j m3z).nm≠nm):=fun j hj=>by
    rcases Nat.lt_or_ge j k with h | h
    · exact hno.out j h
    obtain rfl:j=k:=om_;rw [<- HXE.out];intro e;rw [e] at hq;simp at hq
   go_wp2
   go_round
   case rel=>exact ⟨k+1,om_,by go_num,hno'⟩
   case measure=>simp [intOf];omega
 have he:x.nm=nm:=by
  have:=beq_iff_eq.1 hq;rw [ByteArray.toList_eq,ByteArray.toList_eq] at this;exact ByteArray.ext (Array.toList_inj.1 this)
 have HI:Hid (Is16 fs nm (.returned (.tuple #[.agg #[.string x.nm,.string x.tl,.string x.ar],.bool true]))):=⟨ms,HP.out,x,true,rfl,.inl ⟨rfl,k,hlt,HXE.out.symm,he⟩⟩;clear he;go_wp2;have F:=set3_at w1 (w.heap.size+1) 0 (.string x.nm) (.string x.tl) (.string x.ar) _ _ _ z0 z1 z2;refine bodyPost_ret (v:=.tuple #[.agg #[.string x.nm,.string x.tl,.string x.ar],.bool true]) (by simp [results,Tryz.results177,go_sem,F.1,F.2.1,F.2.2]) rfl ⟨HI.out,?_⟩;exact ((hB1.setCell sm_ _).setCell sm_ _).setCell sm_ _
open T (F2 f2z FilesAt Asc files_below treeOk)
def Is18 (fs:List F2) (nm:ByteArray) (e:Ending):Prop:=∃ r,e=.returned (.bool r)/\((∃ i,i<fs.length/\(fs.getD i f2z).nm=nm)/\r=true\/∃ ms,IsPT fs ms/\Is44 fs ms nm e)
theorem c156 (a:Option Addr) (cap:Nat) (fs:List F2) (nm:ByteArray) (w:World) (hl:fs.length<=1048576) (hs:∀ i,(fs.getD i f2z).le 1048576) (hat:FilesAt w a fs):
 Calls prog 156 #[.agg #[.slice a fs.length cap],.string nm] w fun e w'=>Is18 fs nm e/\Below w.heap.size w w':=by
 have hB0:∀ o1,Below w.heap.size w (w.alloc o1):=fun o1=>bA;have h34:=fun u (hb:Below w.heap.size w u)=>T.c121 a cap fs nm u hl (files_below hat hb);have h16:=fun u (hb:Below w.heap.size w u)=>c177 a cap fs nm u hl hs (files_below hat hb);clear hat hs;go_enter func156,ntmps156
 go_wp2_with fail
 refine (h34 _ (hB0 _)).mono ?_;rintro e w1 ⟨⟨r,rfl,hr⟩,hb1⟩;have hB1:Below w.heap.size w w1:=(hB0 _).trans (hb1.mono sm_);have t0:w1.cell? ⟨w.heap.size,0,none⟩=some (.slice a fs.length cap):=(hb1.cell (p:=⟨w.heap.size,0,none⟩) sm_).trans (by simp [go_sem]);clear hb1 h34;rcases hr with ⟨rfl,hf⟩ | ⟨i,rfl,hi,hn⟩;rotate_left
 · have HI:Hid (Is18 fs nm (.returned (.bool true))):=⟨true,rfl,.inl ⟨⟨i,hi,hn⟩,rfl⟩⟩
   clear h16 hn;go_wp2;go_ret;exact ⟨HI.out,hB1⟩
 have HF:Hid (Free fs nm):=hf;clear hf
 go_wp2_with fail
 refine (h16 _ hB1).mono ?_;rintro e w2 ⟨⟨ms,hpt,x,g,rfl,hx⟩,hb2⟩;have hB2:Below w.heap.size w w2:=bT hB1 hb2;have HI:Hid (Is18 fs nm (.returned (.bool g))):=⟨g,rfl,.inr ⟨ms,hpt,g,rfl,by
  rcases hx with ⟨rfl,i,hi,rfl,hn⟩ | ⟨rfl,hf⟩
  · exact ⟨fun _ c=>c.2 i hi hn,fun _=>rfl⟩
  exact ⟨(fun h=>by cases h),fun c=>absurd ⟨HF.out,hf⟩ c⟩⟩⟩
 clear hx h16;go_wp2;go_ret
 first
  | exact ⟨HI.out,hB2⟩
  | exact ⟨HI.out,hB2.alloc hB2.size _⟩
end Go.Proofs.YthjhakdpikdoeaaGreatDoor.G
namespace Go.Proofs.YthjhakdpikdoeaaGreatDoor
open Proofs.Tryz
open Go.RowKit
def TOk (t:TN) (n:Nat):Prop:=(t.over=true/\vr t.code t.text.data.toList=true)\/(t.over=false/\nameOk t.name.data.toList=true/\n<=13)
theorem dec40:∀ p:Fin 41,num40 (Lib.decDigits p.1)=true:=by decide +kernel
theorem vr_brk {p:Nat} (h:p<=40):vr 2 (ofL (Lib.decDigits p)).data.toList=true:=by
 have:=dec40 ⟨p,om_⟩;simpa [vr,ofL] using this
theorem vr_name {c:Int} {l:List UInt8} (hc:c=4\/c=5\/c=7) (h:nameOk l=true):vr c l=true:=by
 unfold vr;rw [if_neg om_,if_neg om_,if_neg om_,if_pos hc];exact h
theorem vr_text {c:Int} {l:List UInt8} (hc:c=0\/c=1) (h:l.length<=300):vr c l=true:=by
 unfold vr;rw [if_pos hc];simpa using h
theorem look_pc {x:I3} {reps:List R2} {s s':ST} (e:look x reps s=.inl s'):s'.pc=s.pc+1:=by
 unfold look at e
 repeat' split at e
 all_goals first | (cases e;done) | (cases e;rfl)
theorem act_pc {arg:ByteArray} {reps:List R2} {x:I3} {s s':ST} (hx:okI x=true) (hpc:s.pc<=39) (e:act arg reps x s=.inl s'):s'.pc<=40:=by
 have ht:x.to<=40:=by
  unfold okI at hx;simp only [Bool.and_eq_true,decide_eq_true_eq] at hx;exact hx.1.2.2
 unfold act at e;split at e
 · cases e;show s.pc+1<=40;omega
 split at e
 · cases e;show s.pc+1<=40;omega
 split at e
 · split at e
   · cases e
   cases e;show s.pc+1<=40;omega
 split at e
 · split at e
   · cases e
   cases e;show s.pc+1<=40;omega
 split at e
 · cases e;show s.pc+1<=40;omega
 split at e
 · cases e
   show (if s.hand.data.toList=x.tx.data.toList then x.to.toNat else s.pc+1)<=40;by_cases hh:s.hand.data.toList=x.tx.data.toList
   · rw [if_pos hh];omega
   rw [if_neg hh];omega
 split at e
 · cases e;show x.to.toNat<=40;omega
 split at e
 · cases e
 split at e
 · cases e
 have:=look_pc e;omega
theorem look_inr {x:I3} {reps:List R2} {s:ST} {t:TN} (h:Fit reps s) (e:look x reps s=.inr t):TOk t reps.length:=by
 unfold look at e;split at e
 · cases e;exact .inl ⟨rfl,show vr 4 [63]=true by decide⟩
 rename_i hn;have hn':nameOk s.hand.data.toList=true:=by simpa using hn
 split at e
 · cases e;exact .inl ⟨rfl,show vr 3 []=true by decide⟩
 split at e
 · cases e
   exact .inr ⟨rfl,hn',by have:=h.looks;omega⟩
 split at e
 · cases e
 split at e
 · cases e;exact .inl ⟨rfl,vr_name (.inl rfl) hn'⟩
 split at e
 · cases e
 cases e;exact .inl ⟨rfl,vr_name (.inr (.inl rfl)) hn'⟩
theorem act_inr {arg:ByteArray} {reps:List R2} {x:I3} {s:ST} {t:TN} (h:Fit reps s) (hp:s.pc<=40) (e:act arg reps x s=.inr t):TOk t reps.length:=by
 unfold act at e;split at e
 · cases e
 split at e
 · cases e
 split at e
 · split at e
   · cases e;exact .inl ⟨rfl,vr_brk hp⟩
   cases e
 split at e
 · split at e
   · cases e;exact .inl ⟨rfl,vr_brk hp⟩
   cases e
 split at e
 · cases e
 split at e
 · cases e
 split at e
 · cases e
 split at e
 · cases e;exact .inl ⟨rfl,vr_text (.inl rfl) (show s.out.toArray.toList.length<=300 by have:=h.out;simpa using this)⟩
 split at e
 · cases e;exact .inl ⟨rfl,vr_text (.inr rfl) (show s.hand.data.toList.length<=300 by have:=h.hand;simpa using this)⟩
 exact look_inr h e
theorem runF_ok {T:List I3} {arg:ByteArray} {reps:List R2} (hT:okT T=true) (ha:arg.size<=300) (hr:okR reps=true):∀ n s,Fit reps s->s.pc<=40->202 - s.steps<=n->TOk (runF T arg reps n s) reps.length
 | 0,s,hf,hp,hn=>by have:=hf.steps;omega
 | n+1,s,hf,hp,hn=>by
  have hT':=hT;unfold okT at hT';simp only [Bool.and_eq_true,decide_eq_true_eq] at hT';unfold runF
  cases hs:step T arg reps s with
  | inl s'=>
   have hs':=hs;unfold step at hs;split at hs
   · cases hs
   rename_i h1;split at hs
   · cases hs
   rename_i h2;have hx:okI (T.getD s.pc i3z)=true:=List.all_eq_true.1 hT'.2 _ (by simp [List.getD,List.getElem?_eq_getElem (show s.pc<T.length by omega)]);exact runF_ok hT ha hr n s' (act_fit hx ha hr hf om_ om_ hs) (act_pc hx om_ hs) (by have:=(step_inl hs').2;omega)
  | inr t=>
   unfold step at hs;split at hs
   · cases hs;exact .inl ⟨rfl,vr_brk hp⟩
   split at hs
   · cases hs;exact .inl ⟨rfl,show vr 3 []=true by decide⟩
   exact act_inr hf hp hs
theorem nextT_ok {T:List I3} {arg:ByteArray} {reps:List R2} (hT:okT T=true) (ha:arg.size<=300) (hr:okR reps=true) (hl:reps.length<=14):TOk (nextT T arg reps) reps.length:=by
 unfold nextT;rw [if_pos ⟨hT,ha,hl,hr⟩];exact runF_ok hT ha hr 202 s0 (fit_start reps) (by simp [s0]) (by simp [s0])
noncomputable def stS (tl ar:ByteArray) (ls:List M.L4):TN×RS:=ls.foldl (fun p x=>nextR tl ar p.2 ⟨x.cd,x.tx⟩) (⟨false,0,⟨#[]⟩,false,tl,0⟩,rs0)
theorem stS_snoc (tl ar:ByteArray) (ls:List M.L4) (x:M.L4):stS tl ar (ls++[x])=nextR tl ar (stS tl ar ls).2 ⟨x.cd,x.tx⟩:=by
 unfold stS;rw [List.foldl_append];rfl
noncomputable def tn (m:M3) (ls:List M.L4):TN:=(stS m.tl m.ar ls).1
noncomputable def rsF (m:M3) (ls:List M.L4):RS:=(stS m.tl m.ar ls).2
theorem tn_snoc (m:M3) (ls:List M.L4) (x:M.L4):tn m (ls++[x])=(nextR m.tl m.ar (rsF m ls) ⟨x.cd,x.tx⟩).1:=by unfold tn rsF;rw [stS_snoc]
theorem rsF_snoc (m:M3) (ls:List M.L4) (x:M.L4):rsF m (ls++[x])=(nextR m.tl m.ar (rsF m ls) ⟨x.cd,x.tx⟩).2:=by unfold rsF;rw [stS_snoc]
structure RInv (m:M3) (ls:List M.L4):Prop where
 over:(tn m ls).over=true->vr (tn m ls).code (tn m ls).text.data.toList=true
 name:(tn m ls).over=false->nameOk (tn m ls).name.data.toList=true/\ls.length<=14
 has:(tn m ls).over=false->ls≠[]->(rsF m ls).has=true/\okT (rsF m ls).T=true/\(rsF m ls).reps.length+1=ls.length/\okR (rsF m ls).reps=true
theorem rinv_nil {m:M3} (hm:okM m=true):RInv m []:=by
 have e:nameOk m.tl.data.toList=true:=by
  have h:=hm;unfold okM at h;simp only [Bool.and_eq_true] at h;exact h.1.2
 exact ⟨fun h=>by simp [tn,stS] at h,fun _=>⟨e,sm_⟩,fun _ h=>absurd rfl h⟩
theorem okM_parts {m:M3} (hm:okM m=true):nameOk m.nm.data.toList=true/\nameOk m.tl.data.toList=true/\m.ar.size<=300:=by
 have h:=hm;unfold okM at h;simp only [Bool.and_eq_true,decide_eq_true_eq] at h;exact ⟨h.1.1,h.1.2,by have:=h.2;omega⟩
theorem rinv_over {m:M3} {ls:List M.L4} {t:TN} (e:tn m ls=t) (h:t.over=true) (h2:vr t.code t.text.data.toList=true):RInv m ls:=by
 subst e;exact ⟨fun _=>h2,fun k=>(by rw [h] at k;cases k),fun k=>(by rw [h] at k;cases k)⟩
theorem rinv_snoc {m:M3} (hm:okM m=true) {ls:List M.L4} (h:RInv m ls) (ho:(tn m ls).over=false) {x:M.L4} (hx:vr x.cd x.tx.data.toList=true):RInv m (ls++[x]):=by
 obtain ⟨_,htl,har⟩:=okM_parts hm;have hlen:=(h.name ho).2;by_cases hs:(rsF m ls).has=true
 · have hne:ls≠[]:=fun e=>by subst e;simp [rsF,stS,rs0] at hs
   obtain ⟨_,hT,hl,hr⟩:=h.has ho hne;have hr':okR ((rsF m ls).reps++[⟨x.cd,x.tx⟩])=true:=by
    unfold okR at hr ⊢;rw [List.all_append,hr];simp [hx]
   have hk:=nextT_ok hT har hr' so_;have e1:tn m (ls++[x])=nextT (rsF m ls).T m.ar ((rsF m ls).reps++[⟨x.cd,x.tx⟩]):=by rw [tn_snoc,nextR,if_pos hs]
   have e2:rsF m (ls++[x])=⟨true,(rsF m ls).T,(rsF m ls).reps++[⟨x.cd,x.tx⟩]⟩:=by rw [rsF_snoc,nextR,if_pos hs]
   rw [<- e1] at hk;rcases hk with ⟨k1,k2⟩ | ⟨k1,k2,k3⟩
   · exact rinv_over rfl k1 k2
   have:(ls++[x]).length<=14:=by simp at k3 ⊢;omega
   exact ⟨fun h=>(by rw [k1] at h;cases h),fun _=>⟨k2,this⟩,fun _ _=>by rw [e2];exact ⟨rfl,hT,so_,hr'⟩⟩
 have hls:ls=[]:=Classical.byContradiction fun hne=>hs (h.has ho hne).1;subst hls;have hrs:rsF m []=rs0:=rfl;by_cases h0:x.cd=0;rotate_left
 · by_cases h4:x.cd=4
   · have e3:tn m ([]++[x])=overT 4 m.tl 0:=by rw [tn_snoc,hrs];simp [nextR,rs0,h4]
     exact rinv_over e3 rfl (vr_name (.inl rfl) htl)
   have e3:tn m ([]++[x])=overT 5 m.tl 0:=by rw [tn_snoc,hrs];simp [nextR,rs0,h0,h4]
   exact rinv_over e3 rfl (vr_name (.inr (.inl rfl)) htl)
 have e:nextR m.tl m.ar rs0 ⟨x.cd,x.tx⟩=(firstR m.tl m.ar x.tx.data.toList,⟨(readT x.tx.data.toList).2,(readT x.tx.data.toList).1,[]⟩):=by simp [nextR,rs0,h0]
 have e1:tn m ([]++[x])=firstR m.tl m.ar x.tx.data.toList:=by rw [tn_snoc,hrs,e]
 have e2:rsF m ([]++[x])=⟨(readT x.tx.data.toList).2,(readT x.tx.data.toList).1,[]⟩:=by rw [rsF_snoc,hrs,e]
 by_cases hrd:(readT x.tx.data.toList).2=true;rotate_left
 · have e3:tn m ([]++[x])=overT 7 m.tl 0:=by rw [e1,firstR,if_neg hrd]
   exact rinv_over e3 rfl (vr_name (.inr (.inr rfl)) htl)
 have hT:okT (readT x.tx.data.toList).1=true:=by
  rcases readT_is x.tx.data.toList with h | h
  · rw [h] at hrd;cases hrd
  exact (h.1 hrd).1
 have hk:=nextT_ok hT har (reps:=[]) rfl sm_;have e3:tn m ([]++[x])=nextT (readT x.tx.data.toList).1 m.ar []:=by rw [e1,firstR,if_pos hrd]
 rw [<- e3] at hk;rcases hk with ⟨k1,k2⟩ | ⟨k1,k2,k3⟩
 · exact rinv_over rfl k1 k2
 exact ⟨fun h=>(by rw [k1] at h;cases h),fun _=>⟨k2,sm_⟩,fun _ _=>by rw [e2];exact ⟨hrd,hT,sm_,rfl⟩⟩
structure Env where
 ms:List M3
 sn:ByteArray->R2
 pl:ByteArray->Option R2
structure EnvOk (E:Env):Prop where
 sn:∀ n,nameOk n.data.toList=true->E.sn n=⟨0,⟨#[]⟩⟩\/E.sn n=⟨4,n⟩
 pl:∀ n r,nameOk n.data.toList=true->E.pl n=some r->vr r.code r.tx.data.toList=true
 ms:∀ m,m∈E.ms->okM m=true
 one:∀ m m',m∈E.ms->m'∈E.ms->m.nm=m'.nm->m=m'
 made:∀ n,E.pl n=none↔∃ m,m∈E.ms/\m.nm=n
def lkOf (t:TN) (r:R2):M.L4:=⟨t.has,t.name,r.code,r.tx⟩
def resOf (t:TN):R2:=⟨t.code,t.text⟩
inductive Hist (E:Env):M3->List M.L4->Prop
 | nil (m:M3):Hist E m []
 | seen {m:M3} {ls:List M.L4}:Hist E m ls->(tn m ls).over=false->(tn m ls).has=true->Hist E m (ls++[lkOf (tn m ls) (E.sn (tn m ls).name)])
 | plain {m:M3} {ls:List M.L4} {r:R2}:Hist E m ls->(tn m ls).over=false->(tn m ls).has=false->E.pl (tn m ls).name=some r->Hist E m (ls++[lkOf (tn m ls) r])
 | made {m m':M3} {ls ls':List M.L4}:Hist E m ls->(tn m ls).over=false->(tn m ls).has=false->E.pl (tn m ls).name=none->m'∈E.ms->m'.nm=(tn m ls).name->Hist E m' ls'->(tn m' ls').over=true->Hist E m (ls++[lkOf (tn m ls) (resOf (tn m' ls'))])
def Fin (E:Env) (n:ByteArray) (r:R2):Prop:=∃ m ls,m∈E.ms/\m.nm=n/\Hist E m ls/\(tn m ls).over=true/\r=resOf (tn m ls)
def Ans (E:Env) (t:TN) (r:R2):Prop:=(t.has=true/\r=E.sn t.name)\/(t.has=false/\(E.pl t.name=some r\/(E.pl t.name=none/\Fin E t.name r)))
theorem hist_ans {E:Env} {m:M3} {ls:List M.L4} {r:R2} (h:Hist E m ls) (ho:(tn m ls).over=false) (ha:Ans E (tn m ls) r):Hist E m (ls++[lkOf (tn m ls) r]):=by
 rcases ha with ⟨h1,rfl⟩ | ⟨h1,h2 | ⟨h2,m',ls',h3,h4,h5,h6,rfl⟩⟩
 · exact h.seen ho h1
 · exact h.plain ho h1 h2
 exact h.made ho h1 h2 h3 h4 h5 h6
theorem hist_last {E:Env} {m:M3} {L:List M.L4} (h:Hist E m L):∀ ls x,L=ls++[x]->Hist E m ls/\(tn m ls).over=false/\∃ r,x=lkOf (tn m ls) r/\Ans E (tn m ls) r:=by
 cases h with
 | nil=>intro ls x e;simp at e
 | seen h1 h2 h3=>intro ls x e;obtain ⟨e1,e2⟩:=List.append_inj' e rfl;subst e1;cases e2;exact ⟨h1,h2,_,rfl,.inl ⟨h3,rfl⟩⟩
 | plain h1 h2 h3 h4=>intro ls x e;obtain ⟨e1,e2⟩:=List.append_inj' e rfl;subst e1;cases e2;exact ⟨h1,h2,_,rfl,.inr ⟨h3,.inl h4⟩⟩
 | made h1 h2 h3 h4 h5 h6 h7 h8=>intro ls x e;obtain ⟨e1,e2⟩:=List.append_inj' e rfl;subst e1;cases e2;exact ⟨h1,h2,_,rfl,.inr ⟨h3,.inr ⟨h4,_,_,h5,h6,h7,h8,rfl⟩⟩⟩
theorem snocInd {α:Type} {P:List α->Prop} (h0:P []) (h1:∀ ls x,P ls->P (ls++[x])) (l:List α):P l:=by
 have:∀ r:List α,P r.reverse:=fun r=>by
  induction r with
  | nil=>exact h0
  | cons x r ih=>rw [List.reverse_cons];exact h1 _ _ ih
 simpa using this l.reverse
theorem hist_pre {E:Env} {m:M3} (b a:List M.L4):Hist E m (a++b)->Hist E m a:=
 snocInd (P:=fun b=>Hist E m (a++b)->Hist E m a) (fun h=>by simpa using h) (fun b x ih h=>by
  rw [<- List.append_assoc] at h;exact ih (hist_last h _ _ rfl).1) b
theorem hist_next {E:Env} {m:M3} {a b:List M.L4} {x:M.L4} (h:Hist E m (a++x::b)):(tn m a).over=false/\∃ r,x=lkOf (tn m a) r/\Ans E (tn m a) r:=by
 have h':Hist E m ((a++[x])++b):=by simpa using h
 exact (hist_last (hist_pre b _ h') _ _ rfl).2
theorem ans_vr {E:Env} (hE:EnvOk E) (hf:∀ n r,Fin E n r->vr r.code r.tx.data.toList=true) {t:TN} {r:R2} (hn:nameOk t.name.data.toList=true) (h:Ans E t r):vr r.code r.tx.data.toList=true:=by
 rcases h with ⟨_,rfl⟩ | ⟨_,h | ⟨_,h⟩⟩
 · rcases hE.sn _ hn with e | e
   · rw [e];decide
   rw [e];exact vr_name (.inl rfl) hn
 · exact hE.pl _ _ hn h
 exact hf _ _ h
theorem hist_inv {E:Env} (hE:EnvOk E) {m:M3} {L:List M.L4} (h:Hist E m L):okM m=true->RInv m L:=by
 induction h with
 | nil m=>exact fun hm=>rinv_nil hm
 | seen h1 h2 h3 ih=>
  intro hm;refine rinv_snoc hm (ih hm) h2 ?_;rcases hE.sn _ ((ih hm).name h2).1 with e | e
  · rw [e];exact show vr 0 []=true by decide
  rw [e];exact vr_name (.inl rfl) ((ih hm).name h2).1
 | plain h1 h2 h3 h4 ih=>intro hm;exact rinv_snoc hm (ih hm) h2 (hE.pl _ _ ((ih hm).name h2).1 h4)
 | made h1 h2 h3 h4 h5 h6 h7 h8 ih ih'=>intro hm;exact rinv_snoc hm (ih hm) h2 ((ih' (hE.ms _ h5)).over h8)
theorem fin_vr {E:Env} (hE:EnvOk E) {n:ByteArray} {r:R2} (h:Fin E n r):vr r.code r.tx.data.toList=true:=by
 obtain ⟨m,ls,a1,a2,a3,a4,rfl⟩:=h;exact (hist_inv hE a3 (hE.ms _ a1)).over a4
theorem lkOf_ok {E:Env} (hE:EnvOk E) {m:M3} {ls:List M.L4} (hm:okM m=true) (h:Hist E m ls) (ho:(tn m ls).over=false) {r:R2} (ha:Ans E (tn m ls) r):M.LkOk (lkOf (tn m ls) r):=by
 have hn:=((hist_inv hE h hm).name ho).1;refine ⟨hn,?_⟩;rcases hb:(tn m ls).has with _ | _
 · exact .inr ⟨hb,ans_vr hE (fun n r=>fin_vr hE) hn ha⟩
 refine .inl ⟨hb,?_⟩;rcases ha with ⟨_,rfl⟩ | ⟨h,_⟩
 · rcases hE.sn _ hn with e | e
   · exact .inl (by show (E.sn _).code=0/\(E.sn _).tx=_;rw [e];exact ⟨rfl,rfl⟩)
   exact .inr (by show (E.sn _).code=4/\(E.sn _).tx=_;rw [e];exact ⟨rfl,rfl⟩)
 rw [hb] at h;cases h
theorem hist_ok {E:Env} (hE:EnvOk E) {m:M3} {L:List M.L4} (hm:okM m=true):Hist E m L->L.length<=15/\∀ x,x∈L->M.LkOk x:=
 snocInd (P:=fun L=>Hist E m L->L.length<=15/\∀ x,x∈L->M.LkOk x) (fun _=>⟨sm_,sm_⟩) (fun ls x ih h=>by
  obtain ⟨h1,h2,r,rfl,h3⟩:=hist_last h _ _ rfl;obtain ⟨_,i2⟩:=ih h1;refine ⟨by have:=((hist_inv hE h1 hm).name h2).2;simp;omega,fun y hy=>?_⟩;rcases List.mem_append.1 hy with hy | hy
  · exact i2 y hy
  obtain rfl:=List.mem_singleton.1 hy;exact lkOf_ok hE hm h1 h2 h3) L
open M (BlkAt OpnAt blk_new opn_new)
theorem blk4 {w1:World} {B:Nat} {y0 y1 y2 y3:Value} (h:BlkAt w1 B [y0,y1,y2,y3]) (v0 v1 v2 v3:Value):BlkAt ((((w1.setCell ⟨B,0,none⟩ v0).setCell ⟨B,1,none⟩ v1).setCell ⟨B,2,none⟩ v2).setCell ⟨B,3,none⟩ v3) B [v0,v1,v2,v3]:=(((h.set 0 v0 sm_).set 1 v1 sm_).set 2 v2 sm_).set 3 v3 sm_
open Classical in
noncomputable def seeH (fs:List G.T.F2) (ms:List M3) (nm:ByteArray):Int×ByteArray:=if G.Free fs nm/\G.FreeM ms nm then (4,nm) else (0,⟨#[]⟩)
theorem seeH_of {fs:List G.T.F2} {ms:List M3} {nm:ByteArray} {r:Bool} (h:r=true↔¬ (G.Free fs nm/\G.FreeM ms nm)):seeH fs ms nm=if r then (0,⟨#[]⟩) else (4,nm):=by
 unfold seeH;cases r
 · rw [if_pos (Classical.byContradiction fun hn=>by have:=h.2 hn;cases this)];rfl
 rw [if_neg (h.1 rfl)];rfl
theorem is18_of {fs:List G.T.F2} {ms:List M3} {nm:ByteArray} {e:Ending} (hp:G.IsPT fs ms) (h:G.Is18 fs nm e):∃ r,e=.returned (.bool r)/\(r=true↔¬ (G.Free fs nm/\G.FreeM ms nm)):=by
 obtain ⟨r,rfl,h⟩:=h;rcases h with ⟨⟨i,hi,hn⟩,rfl⟩ | ⟨ns,hq,q,hq2,hq3⟩
 · exact ⟨true,rfl,fun _ c=>c.1 i hi hn,fun _=>rfl⟩
 obtain rfl:=G.isPT_one hp hq;exact ⟨q,hq2,hq3⟩
theorem c123 (a:Option Addr) (cap:Nat) (fs:List G.T.F2) (ms:List M3) (nm:ByteArray) (w:World) (hl:fs.length<=1048576) (hs:∀ i,(fs.getD i G.T.f2z).le 1048576) (hat:G.T.FilesAt w a fs) (hp:G.IsPT fs ms):
 Calls prog 123 #[.agg #[.slice a fs.length cap],.string nm] w fun e w'=>e=.returned (.agg #[.bool true,.string nm,.int .i64 (seeH fs ms nm).1,.string (seeH fs ms nm).2])/\Below w.heap.size w w':=by
 have hB0:Below w.heap.size w ((w.alloc (.cells #[.slice a fs.length cap] 51)).alloc (.cells #[.bool false,.string ⟨#[]⟩,.int .i64 0,.string ⟨#[]⟩] 74)):=bA.alloc sm_ _;have h70:=G.c156 a cap fs nm _ hl hs (G.T.files_below hat hB0);have b0:=hI_ (blk_new (w.alloc (.cells #[.slice a fs.length cap] 51)) [.bool false,.string ⟨#[]⟩,.int .i64 0,.string ⟨#[]⟩] 74);have o0:=hI_ (opn_new (w.alloc (.cells #[.slice a fs.length cap] 51)) #[.bool false,.string ⟨#[]⟩,.int .i64 0,.string ⟨#[]⟩] 74);have s0:(w.alloc (.cells #[.slice a fs.length cap] 51)).heap.size=w.heap.size+1:=sm_;have s1:((w.alloc (.cells #[.slice a fs.length cap] 51)).alloc (.cells #[.bool false,.string ⟨#[]⟩,.int .i64 0,.string ⟨#[]⟩] 74)).heap.size=w.heap.size+2:=sm_;rw [s0] at b0 o0;clear hat;go_enter func123,ntmps123
 go_wp2_with fail
 refine h70.mono ?_;rintro e w1 ⟨h18,hb1⟩;obtain ⟨r,rfl,hr⟩:=is18_of hp h18;have HS:=hI_ (seeH_of hr);have hB1:Below w.heap.size w w1:=hB0.trans (hb1.mono (by rw [s1];omega));have B1:=b0.out.below hb1 (by rw [s1];omega);have O1:=o0.out.below hb1 (by rw [s1];omega);have x0:=B1 0 _ rfl;have x1:=B1 1 _ rfl;have x2:=B1 2 _ rfl;have x3:=B1 3 _ rfl;have f0:=O1 0;have f1:=O1 1;have f2:=O1 2;have f3:=O1 3;clear h18 hr h70;cases r
 · have HE:=hI_ (blk4 B1 (.bool true) (.string nm) (.int .i64 4) (.string nm))
   have e0:=HE.out 0 _ rfl;have e1:=HE.out 1 _ rfl;have e2:=HE.out 2 _ rfl;have e3:=HE.out 3 _ rfl;have HB:Hid (Below w.heap.size w ((((w1.setCell ⟨w.heap.size+1,0,none⟩ (.bool true)).setCell ⟨w.heap.size+1,1,none⟩ (.string nm)).setCell ⟨w.heap.size+1,2,none⟩ (.int .i64 4)).setCell ⟨w.heap.size+1,3,none⟩ (.string nm))):=hI_ ((((hB1.setCell sm_ _).setCell sm_ _).setCell sm_ _).setCell sm_ _);clear B1 O1;go_wp2;refine bodyPost_ret (v:=.agg #[.bool true,.string nm,.int .i64 4,.string nm]) (by simp [results,Tryz.results123,go_sem,e0,e1,e2,e3]) rfl ⟨by rw [HS.out];rfl,HB.out⟩
 have HE:=hI_ (blk4 B1 (.bool true) (.string nm) (.int .i64 0) (.string ⟨#[]⟩));have e0:=HE.out 0 _ rfl;have e1:=HE.out 1 _ rfl;have e2:=HE.out 2 _ rfl;have e3:=HE.out 3 _ rfl;have HB:Hid (Below w.heap.size w ((((w1.setCell ⟨w.heap.size+1,0,none⟩ (.bool true)).setCell ⟨w.heap.size+1,1,none⟩ (.string nm)).setCell ⟨w.heap.size+1,2,none⟩ (.int .i64 0)).setCell ⟨w.heap.size+1,3,none⟩ (.string ⟨#[]⟩))):=hI_ ((((hB1.setCell sm_ _).setCell sm_ _).setCell sm_ _).setCell sm_ _);clear B1 O1;go_wp2;refine bodyPost_ret (v:=.agg #[.bool true,.string nm,.int .i64 0,.string ⟨#[]⟩]) (by simp [results,Tryz.results123,go_sem,e0,e1,e2,e3]) rfl ⟨by rw [HS.out];rfl,HB.out⟩
end Go.Proofs.YthjhakdpikdoeaaGreatDoor
namespace Go.Proofs.YthjhakdpikdoeaaGreatDoor.G
open Proofs.Tryz
open Go.RowKit
open T (F2 f2z FilesAt Asc files_below treeOk)
variable {fs:List F2} {ms:List M3} {nm:ByteArray} {i:Nat}
open Classical in
noncomputable def plF (fs:List F2) (ms:List M3) (nm:ByteArray):Option (Int×ByteArray):=
 if h:∃ i,i<fs.length/\(fs.getD i f2z).nm=nm then some (0,(fs.getD h.choose f2z).tx) else if FreeM ms nm then some (4,nm) else none
theorem plF_file (ht:treeOk fs) (hi:i<fs.length) (hn:(fs.getD i f2z).nm=nm):plF fs ms nm=some (0,(fs.getD i f2z).tx):=by
 have h:∃ i,i<fs.length/\(fs.getD i f2z).nm=nm:=⟨i,hi,hn⟩;unfold plF;rw [dif_pos h];have e:h.choose=i:=name_once ht h.choose_spec.1 hi (h.choose_spec.2.trans hn.symm);rw [e]
theorem plF_free (hf:Free fs nm) (hm:FreeM ms nm):plF fs ms nm=some (4,nm):=by
 unfold plF;rw [dif_neg (fun ⟨i,hi,hn⟩=>hf i hi hn),if_pos hm]
theorem plF_made (hf:Free fs nm) (hi:i<ms.length) (hn:(ms.getD i m3z).nm=nm):plF fs ms nm=none:=by
 unfold plF;rw [dif_neg (fun ⟨i,hi,hn⟩=>hf i hi hn),if_neg (fun h=>h i hi hn)]
def Is17k (fs:List F2) (ms:List M3) (nm:ByteArray) (e:Ending):Prop:=e=.returned (.tuple #[.agg #[.int .i64 ((plF fs ms nm).getD (0,⟨#[]⟩)).1,.string ((plF fs ms nm).getD (0,⟨#[]⟩)).2],.bool (plF fs ms nm).isSome])
theorem c157k (a:Option Addr) (cap:Nat) (fs:List F2) (ms:List M3) (nm:ByteArray) (w:World) (hl:fs.length<=1048576) (hs:∀ i,(fs.getD i f2z).le 1048576) (hat:FilesAt w a fs) (ht:treeOk fs) (hp:IsPT fs ms):
 Calls prog 157 #[.agg #[.slice a fs.length cap],.string nm] w fun e w'=>Is17k fs ms nm e/\Below w.heap.size w w':=by
 have hB0:∀ o1 o2,Below w.heap.size w ((w.alloc o1).alloc o2):=fun o1 o2=>bA.alloc sm_ _;have h34:=fun u (hb:Below w.heap.size w u)=>T.c121 a cap fs nm u hl (files_below hat hb);have h16:=fun u (hb:Below w.heap.size w u)=>c177 a cap fs nm u hl hs (files_below hat hb);obtain ⟨b,off,hc⟩:=T.files_some hat;clear hat hs;go_enter func157,ntmps157
 go_wp2_with fail
 refine (h34 _ (hB0 _ _)).mono ?_;rintro e w1 ⟨⟨r,rfl,hr⟩,hb1⟩;have hB1:Below w.heap.size w w1:=(hB0 _ _).trans (hb1.mono so_);have hx1:Below (w.heap.size+2) ((w.alloc (.cells #[.slice a fs.length cap] 51)).alloc (.cells #[.int .i64 0,.string ⟨#[]⟩] 27)) w1:=by have h:=hb1;simp at h;exact h
 obtain ⟨t0,⟨z0,z1⟩,y0,y1⟩:=rzU hx1;have hz1:w.heap.size+1<w1.heap.size:=by have:=hx1.size;simp at this;omega
 clear hb1 h34 hx1 hB0;rcases hr with ⟨rfl,hf⟩ | ⟨i,rfl,hi,hn⟩;rotate_left
 · rcases hc with hss | ⟨ha,hbw,hcell⟩
   · rw [hss] at hi;exact absurd hi (Nat.not_lt_zero _)
   subst ha;have g1:=(hB1.cell (p:=⟨b,off+i*2+1,none⟩) hbw).trans (hcell i hi).2;have HI:Hid (Is17k fs ms nm (.returned (.tuple #[.agg #[.int .i64 0,.string (fs.getD i f2z).tx],.bool true]))):=by unfold Hid Is17k;rw [plF_file ht hi hn];rfl
   generalize (fs.getD i f2z).tx=tx at*;clear h16 hn hcell;go_wp2;have F:=set2_at' w1 (w.heap.size+1) (.int .i64 0) (.string tx) _ _ z0 z1;refine bodyPost_ret (v:=.tuple #[.agg #[.int .i64 0,.string tx],.bool true]) (by simp [results,Tryz.results157,go_sem,F.1,F.2]) rfl ⟨HI.out,?_⟩;exact (hB1.setCell sm_ _).setCell sm_ _
 have HF:Hid (Free fs nm):=hf;clear hf hc
 go_wp2_with fail
 refine (h16 _ hB1).mono ?_;rintro e w2 ⟨⟨ns,hpt,x,g,rfl,hx⟩,hb2⟩;have hB2:Below w.heap.size w w2:=bT hB1 hb2;obtain rfl:=isPT_one hp hpt;have HR1:Hid (g=false->Is17k fs ms nm (.returned (.tuple #[.agg #[.int .i64 4,.string nm],.bool true]))):=fun hg=>(by
  rcases hx with ⟨hg',_⟩ | ⟨_,hx⟩
  · rw [hg] at hg';cases hg'
  unfold Is17k;rw [plF_free HF.out hx];rfl)
 have HR2:Hid (g=true->Is17k fs ms nm (.returned (.tuple #[.agg #[.int .i64 0,.string ⟨#[]⟩],.bool false]))):=fun hg=>(by
  rcases hx with ⟨_,i,hi,rfl,hn⟩ | ⟨hg',_⟩
  · unfold Is17k;rw [plF_made HF.out hi hn];rfl
  rw [hg] at hg';cases hg')
 have u0:=(hb2.cell (p:=⟨w.heap.size+1,0,none⟩) (by exact hz1)).trans z0;have u1:=(hb2.cell (p:=⟨w.heap.size+1,1,none⟩) (by exact hz1)).trans z1;have g0:=(hb2.frozen (p:=⟨w.heap.size+1,0,none⟩) (by exact hz1)).trans y0;have g1:=(hb2.frozen (p:=⟨w.heap.size+1,1,none⟩) (by exact hz1)).trans y1;have hz2:w.heap.size+1<w2.heap.size:=Nat.lt_of_lt_of_le hz1 hb2.size;clear hx h16 z0 z1 y0 y1 hb2 t0 hpt;cases g
 · go_wp2
   have F:=set2_at' w2 (w.heap.size+1) (.int .i64 4) (.string nm) _ _ u0 u1;have hBU:Below w.heap.size w ((w2.setCell ⟨w.heap.size+1,0,none⟩ (.int .i64 4)).setCell ⟨w.heap.size+1,1,none⟩ (.string nm)):=(hB2.setCell sm_ _).setCell sm_ _;have hszU:w.heap.size+1<((w2.setCell ⟨w.heap.size+1,0,none⟩ (.int .i64 4)).setCell ⟨w.heap.size+1,1,none⟩ (.string nm)).heap.size:=by simpa using hz2
   generalize ((w2.setCell ⟨w.heap.size+1,0,none⟩ (.int .i64 4)).setCell ⟨w.heap.size+1,1,none⟩ (.string nm))=U at*;have F1:=fun o=>(cell_al hszU 0 o).trans F.1;have F2:=fun o=>(cell_al hszU 1 o).trans F.2;refine bodyPost_ret (v:=.tuple #[.agg #[.int .i64 4,.string nm],.bool true]) (by simp [results,Tryz.results157,go_sem,F1,F2]) rfl ⟨HR1.out sm_,?_⟩;exact hBU.alloc hBU.size _
 go_wp2;have F:=set2_at' w2 (w.heap.size+1) (.int .i64 0) (.string ⟨#[]⟩) _ _ u0 u1;have hBU:Below w.heap.size w ((w2.setCell ⟨w.heap.size+1,0,none⟩ (.int .i64 0)).setCell ⟨w.heap.size+1,1,none⟩ (.string ⟨#[]⟩)):=(hB2.setCell sm_ _).setCell sm_ _;have hszU:w.heap.size+1<((w2.setCell ⟨w.heap.size+1,0,none⟩ (.int .i64 0)).setCell ⟨w.heap.size+1,1,none⟩ (.string ⟨#[]⟩)).heap.size:=by simpa using hz2
 generalize ((w2.setCell ⟨w.heap.size+1,0,none⟩ (.int .i64 0)).setCell ⟨w.heap.size+1,1,none⟩ (.string ⟨#[]⟩))=U at*;have F1:=fun o=>(cell_al hszU 0 o).trans F.1;have F2:=fun o=>(cell_al hszU 1 o).trans F.2;refine bodyPost_ret (v:=.tuple #[.agg #[.int .i64 0,.string ⟨#[]⟩],.bool false]) (by simp [results,Tryz.results157,go_sem,F1,F2]) rfl ⟨HR2.out sm_,?_⟩;exact hBU.alloc hBU.size _
end Go.Proofs.YthjhakdpikdoeaaGreatDoor.G
namespace Go.Proofs.YthjhakdpikdoeaaGreatDoor
open Proofs.Tryz
open Go.RowKit
open G (IsPT FreeAll Free FreeM plF Is43 AscM)
open G.T (F2 f2z treeOk)
def toM (x:M3):M3:=⟨x.nm,x.tl,x.ar⟩
def ofP (p:Int×ByteArray):R2:=⟨p.1,p.2⟩
noncomputable def envOf (fs:List F2) (ms:List M3):Env:=⟨ms.map toM,fun n=>ofP (seeH fs ms n),fun n=>(plF fs ms n).map ofP⟩
theorem isPT_cases {fs:List F2} {ms:List M3} (h:IsPT fs ms):ms=[]\/(G.planOk ms=true/\FreeAll fs ms):=by
 rcases h with ⟨_,rfl⟩ | ⟨_,_,rfl⟩ | ⟨_,i,hi,hn,ks,ok,hp,⟨h1,h2,rfl⟩ | ⟨_,rfl⟩⟩
 · exact .inl rfl
 · exact .inl rfl
 · exact .inr ⟨(hp.1 h1).1,h2⟩
 exact .inl rfl
theorem isPT_all {fs:List F2} {ms:List M3} (h:IsPT fs ms) {i:Nat} (hi:i<ms.length):okM (ms.getD i m3z)=true:=by
 rcases isPT_cases h with rfl | ⟨h1,_⟩
 · exact absurd hi (Nat.not_lt_zero _)
 exact G.getM_ok (G.plan_all h1) hi
theorem isPT_free {fs:List F2} {ms:List M3} (h:IsPT fs ms):FreeAll fs ms:=by
 rcases isPT_cases h with rfl | ⟨_,h1⟩
 · exact fun i hi=>absurd hi (Nat.not_lt_zero _)
 exact h1
theorem isPT_30 {fs:List F2} {ms:List M3} (h:IsPT fs ms):ms.length<=30:=by
 rcases isPT_cases h with rfl | ⟨h1,_⟩
 · exact Nat.zero_le _
 exact ((G.plan_iff ms).1 h1).1
theorem made_iff {fs:List F2} {ms:List M3} (h:IsPT fs ms) (n:ByteArray):plF fs ms n=none↔∃ i,i<ms.length/\(ms.getD i m3z).nm=n:=by
 refine ⟨fun hn=>?_,fun ⟨i,hi,hn⟩=>G.plF_made (fun j hj e=>isPT_free h i hi j hj (e.trans hn.symm)) hi hn⟩;unfold plF at hn;split at hn
 · cases hn
 split at hn
 · cases hn
 rename_i hf;exact Classical.byContradiction fun hne=>hf (fun i hi e=>hne ⟨i,hi,e⟩)
theorem mem_toM {ms:List M3} {m:M3}:m∈ms.map toM↔∃ i,i<ms.length/\toM (ms.getD i m3z)=m:=by
 rw [List.mem_map];constructor
 · rintro ⟨x,hx,rfl⟩
   obtain ⟨i,hi,rfl⟩:=List.getElem_of_mem hx;exact ⟨i,hi,by simp [List.getD,List.getElem?_eq_getElem hi]⟩
 rintro ⟨i,hi,rfl⟩;exact ⟨_,by simp [List.getD,List.getElem?_eq_getElem hi],rfl⟩
theorem plF_vr {fs:List F2} {ms:List M3} (ht:treeOk fs) {n:ByteArray} (hn:nameOk n.data.toList=true) {p:Int×ByteArray} (h:plF fs ms n=some p):vr p.1 p.2.data.toList=true:=by
 unfold plF at h;split at h;rotate_left
 · split at h
   · cases h
     exact vr_name (.inl rfl) hn
   cases h
 rename_i hx;cases h;have:=ht.2 _ hx.choose_spec.1;unfold G.T.stepOk G.T.fileOk at this;simp only [Bool.and_eq_true,decide_eq_true_eq] at this;refine vr_text (.inl rfl) ?_;have h2:=this.1.2;have e:∀ b:ByteArray,b.data.toList.length=b.size:=fun b=>rfl;rw [e];show (fs.getD hx.choose f2z).tx.size<=300;omega
theorem envOk {fs:List F2} {ms:List M3} (ht:treeOk fs) (hp:IsPT fs ms):EnvOk (envOf fs ms) where
 sn n hn:=by
  show ofP (seeH fs ms n)=_\/ofP (seeH fs ms n)=_;unfold seeH;split
  · exact .inr rfl
  exact .inl rfl
 pl n r hn h:=by
  obtain ⟨p,h1,rfl⟩:=Option.map_eq_some_iff.1 h;exact plF_vr ht hn h1
 ms m hm:=by
  obtain ⟨i,hi,rfl⟩:=mem_toM.1 hm;exact isPT_all hp hi
 one m m' hm hm' e:=by
  obtain ⟨i,hi,rfl⟩:=mem_toM.1 hm;obtain ⟨j,hj,rfl⟩:=mem_toM.1 hm';rw [G.ascM_once (G.isPT_asc hp) hi hj e]
 made n:=by
  show (plF fs ms n).map ofP=none↔_;rw [Option.map_eq_none_iff,made_iff hp];constructor
  · rintro ⟨i,hi,rfl⟩
    exact ⟨_,mem_toM.2 ⟨i,hi,rfl⟩,rfl⟩
  rintro ⟨m,hm,rfl⟩;obtain ⟨i,hi,rfl⟩:=mem_toM.1 hm;exact ⟨i,hi,rfl⟩
theorem pl_none {fs:List F2} {ms:List M3} {n:ByteArray}:(envOf fs ms).pl n=none↔plF fs ms n=none:=Option.map_eq_none_iff
def lkCells (ls:List M.L4):List Value:=ls.flatMap fun x=>[.bool x.has,.string x.nm,.int .i64 x.cd,.string x.tx]
theorem lkCells_snoc (ls:List M.L4) (x:M.L4):lkCells (ls++[x])=lkCells ls++[.bool x.has,.string x.nm,.int .i64 x.cd,.string x.tx]:=by simp [lkCells]
theorem lkCells_len (ls:List M.L4):(lkCells ls).length=ls.length*4:=by
 induction ls with
 | nil=>rfl
 | cons x r ih=>unfold lkCells at *;simp only [List.flatMap_cons,List.length_append,List.length_cons,List.length_nil,ih];omega
theorem lkCells_get (ls:List M.L4) (i j:Nat) (h:i<ls.length) (hj:j<4):(lkCells ls)[i*4+j]?=[Value.bool (ls.getD i M.l4z).has,.string (ls.getD i M.l4z).nm,.int .i64 (ls.getD i M.l4z).cd,.string (ls.getD i M.l4z).tx][j]?:=by
 induction ls generalizing i with
 | nil=>simp at h
 | cons x r ih=>
  show ([Value.bool x.has,.string x.nm,.int .i64 x.cd,.string x.tx]++lkCells r)[i*4+j]?=_
  cases i with
  | zero=>rw [List.getElem?_append_left so_];simp
  | succ i=>
   rw [List.getElem?_append_right so_];have:=ih i (by simpa using h);rw [show (i+1)*4+j - [Value.bool x.has,.string x.nm,.int .i64 x.cd,.string x.tx].length=i*4+j by simp;omega];simpa using this
theorem lkCells_one (ls:List M.L4):∀ u∈lkCells ls,u.oneCell'=true:=by
 intro u hu;unfold lkCells at hu;obtain ⟨x,_,hx⟩:=List.mem_flatMap.1 hu;simp at hx;rcases hx with rfl | rfl | rfl | rfl <;> rfl
theorem row_lks {w:World} {base:Nat} {v:Value} {ls:List M.L4} (h:w.ownsRow base 74 4 v ls.length (lkCells ls)):∃ a c,v=.slice a ls.length c/\M.LksAt w a ls:=by
 have h':=h;rcases h.2 with ⟨hv,h0⟩ | ⟨g,cap,cur,hv,hg,hh,_⟩
 · exact ⟨none,0,by rw [hv,h0],.inl (List.length_eq_zero_iff.1 h0)⟩
 refine ⟨some ⟨g,0,none⟩,cap,hv,?_⟩;subst hv;refine .inr ⟨g,0,rfl,blk_lt hh,fun i hi=>?_⟩;have e:=fun j hj=>(h'.cellAt (i*4+j) om_).trans (lkCells_get ls i j hi hj);simp only [Nat.zero_add];exact ⟨e 0 om_,e 1 om_,e 2 om_,e 3 om_⟩
theorem lks_cellsAt {w:World} {ad:Addr} {ls:List M.L4} (h:M.LksAt w (some ad) ls):∀ j u,(lkCells ls)[j]?=some u->w.cell? (ad.add j)=some u:=fun j u e=>by
 have hj:=(List.getElem?_eq_some_iff.1 e).1;rw [lkCells_len] at hj;rcases h with h | ⟨b,off,ha,hb,hc⟩
 · subst h;simp at hj
 cases ha
 have hi:j / 4<ls.length:=om_;have hm:j % 4<4:=Nat.mod_lt _ dc_;have ej:j=j / 4*4+j % 4:=om_;rw [ej,lkCells_get ls _ _ hi hm] at e;obtain ⟨h0,h1,h2,h3⟩:=hc _ hi;rw [Addr.add_lit,ej];rcases (by omega:j % 4=0\/j % 4=1\/j % 4=2\/j % 4=3) with h | h | h | h
 all_goals rw [h] at e ⊢
 · simp at e;subst e;exact h0
 · simp at e;subst e;rw [<- Nat.add_assoc];exact h1
 · simp at e;subst e;rw [<- Nat.add_assoc];exact h2
 simp at e;subst e;rw [<- Nat.add_assoc];exact h3
open G (plF IsPT)
open G.T (F2 f2z treeOk FilesAt)
structure W8 where
 m:M3
 lv:Value
 ls:List M.L4
 ov:Bool
 cd:Int
 tx:ByteArray
 wt:ByteArray
def w8z:W8:=⟨m3z,.slice none 0 0,[],false,0,⟨#[]⟩,⟨#[]⟩⟩
def W8.vs (x:W8):List Value:=[.string x.m.nm,.string x.m.tl,.string x.m.ar,x.lv,.bool x.ov,.int .i64 x.cd,.string x.tx,.string x.wt]
def WysAt (w:World) (a:Option Addr) (ws:List W8):Prop:=
 ws=[]\/∃ b off,a=some ⟨b,off,none⟩/\b<w.heap.size/\∀ i,i<ws.length->∀ j v,(ws.getD i w8z).vs[j]?=some v->w.cell? ⟨b,off+i*8+j,none⟩=some v
theorem wys_some {w:World} {a:Option Addr} {ws:List W8} (h:WysAt w a ws):∃ b off,(ws=[]\/(a=some ⟨b,off,none⟩/\b<w.heap.size/\∀ i,i<ws.length->∀ j v,(ws.getD i w8z).vs[j]?=some v->w.cell? ⟨b,off+i*8+j,none⟩=some v)):=by
 rcases h with h | ⟨b,off,h⟩
 · exact ⟨0,0,.inl h⟩
 exact ⟨b,off,.inr h⟩
theorem wys_below {w w':World} {a:Option Addr} {ws:List W8} (h:WysAt w a ws) (hb:Below w.heap.size w w'):WysAt w' a ws:=by
 rcases h with h | ⟨b,off,h1,h2,h3⟩
 · exact .inl h
 exact .inr ⟨b,off,h1,Nat.lt_of_lt_of_le h2 hb.size,fun i hi j v e=>(hb.cell (p:=⟨b,off+i*8+j,none⟩) h2).trans (h3 i hi j v e)⟩
def fndW (ws:List W8) (nm:ByteArray):Option W8:=ws.find? fun x=>decide (x.m.nm=nm)
noncomputable def knW (fs:List F2) (ms:List M3) (ws:List W8) (nm:ByteArray):R2×Bool:=
 match plF fs ms nm with
 | some p=>(ofP p,true)
 | none=>match fndW ws nm with
  | some x=>(⟨x.cd,x.tx⟩,x.ov)
  | none=>(⟨0,⟨#[]⟩⟩,false)
def Is24 (r:R2×Bool) (e:Ending):Prop:=e=.returned (.tuple #[.agg #[.int .i64 r.1.code,.string r.1.tx],.bool r.2])
theorem fnd_at {ws:List W8} {nm:ByteArray} {k:Nat} (hk:k<ws.length) (hp:∀ j,j<k->(ws.getD j w8z).m.nm≠nm) (hn:(ws.getD k w8z).m.nm=nm):fndW ws nm=some (ws.getD k w8z):=by
 unfold fndW;rw [List.find?_eq_some_iff_getElem];have e:∀ j (h:j<ws.length),ws.getD j w8z=ws[j]:=fun j h=>by simp [List.getD,List.getElem?_eq_getElem h]
 refine ⟨by simpa using hn,k,hk,(e k hk).symm,fun j hj=>?_⟩;have:=hp j hj;rw [e j om_] at this;simpa using this
theorem fnd_none {ws:List W8} {nm:ByteArray} (hp:∀ j,j<ws.length->(ws.getD j w8z).m.nm≠nm):fndW ws nm=none:=by
 unfold fndW;rw [List.find?_eq_none];intro x hx;obtain ⟨j,hj,rfl⟩:=List.getElem_of_mem hx;have:=hp j hj;simpa [List.getD,List.getElem?_eq_getElem hj] using this
theorem cell_set2 {u:World} {B b j:Nat} {v0 v1:Value} (hne:b≠B):((u.setCell ⟨B,0,none⟩ v0).setCell ⟨B,1,none⟩ v1).cell? ⟨b,j,none⟩=u.cell? ⟨b,j,none⟩:=by
 rw [World.cell?_setCell_other _ _ _ _ (fun e=>hne (congrArg Addr.block e).symm),World.cell?_setCell_other _ _ _ _ (fun e=>hne (congrArg Addr.block e).symm)]
theorem c124 (a:Option Addr) (cap:Nat) (fs:List F2) (ms:List M3) (wa:Option Addr) (wc:Nat) (ws:List W8) (nm:ByteArray) (w:World) (hl:fs.length<=1048576) (hs:∀ i,(fs.getD i f2z).le 1048576) (hat:FilesAt w a fs) (ht:treeOk fs) (hp:IsPT fs ms) (hlw:ws.length<=300) (hws:WysAt w wa ws):
 Calls prog 124 #[.agg #[.slice a fs.length cap],.slice wa ws.length wc,.string nm] w fun e w'=>Is24 (knW fs ms ws nm) e/\Below w.heap.size w w':=by
 have hB0:∀ o1 o2,Below w.heap.size w ((w.alloc o1).alloc o2):=fun o1 o2=>bA.alloc sm_ _;have h35:=fun u (hb:Below w.heap.size w u)=>G.c157k a cap fs ms nm u hl hs (G.T.files_below hat hb) ht hp;obtain ⟨b,off,hc⟩:=wys_some hws;have HC:=hI_ hc;clear hat hs hws hc;go_enter func124,ntmps124
 go_wp2_with fail
 refine (h35 _ (hB0 _ _)).mono ?_;rintro e w1 ⟨h17,hb1⟩;have hB1:Below w.heap.size w w1:=(hB0 _ _).trans (hb1.mono so_);have hx1:Below (w.heap.size+2) ((w.alloc (.cells #[.slice a fs.length cap] 51)).alloc (.cells #[.int .i64 0,.string ⟨#[]⟩] 27)) w1:=by have h:=hb1;simp at h;exact h
 obtain ⟨t0,⟨z0,z1⟩,y0,y1⟩:=G.rzU hx1;have hz1:w.heap.size+1<w1.heap.size:=by have:=hx1.size;simp at this;omega
 clear hb1 h35 hx1 hB0
 cases hpl:plF fs ms nm with
 | some p=>
  obtain ⟨c,t⟩:=p;have e':e=.returned (.tuple #[.agg #[.int .i64 c,.string t],.bool true]):=by unfold G.Is17k at h17;rw [hpl] at h17;exact h17
  subst e';have HR:Hid (Is24 (knW fs ms ws nm) (.returned (.tuple #[.agg #[.int .i64 c,.string t],.bool true]))):=by unfold Hid Is24 knW;rw [hpl];rfl
  clear h17 HC;go_wp2;have F:=G.set2_at' w1 (w.heap.size+1) (.int .i64 c) (.string t) _ _ z0 z1;have hBU:Below w.heap.size w ((w1.setCell ⟨w.heap.size+1,0,none⟩ (.int .i64 c)).setCell ⟨w.heap.size+1,1,none⟩ (.string t)):=(hB1.setCell sm_ _).setCell sm_ _;have hszU:w.heap.size+1<((w1.setCell ⟨w.heap.size+1,0,none⟩ (.int .i64 c)).setCell ⟨w.heap.size+1,1,none⟩ (.string t)).heap.size:=by simpa using hz1
  generalize ((w1.setCell ⟨w.heap.size+1,0,none⟩ (.int .i64 c)).setCell ⟨w.heap.size+1,1,none⟩ (.string t))=U at*;have F1:=fun o=>(G.cell_al hszU 0 o).trans F.1;have F2:=fun o=>(G.cell_al hszU 1 o).trans F.2;refine bodyPost_ret (v:=.tuple #[.agg #[.int .i64 c,.string t],.bool true]) (by simp [results,Tryz.results124,go_sem,F1,F2]) rfl ⟨HR.out,?_⟩;exact hBU.alloc hBU.size _
 | none=>
  have e':e=.returned (.tuple #[.agg #[.int .i64 0,.string ⟨#[]⟩],.bool false]):=by unfold G.Is17k at h17;rw [hpl] at h17;exact h17
  subst e';have HN:Hid ((∀ j,j<ws.length->(ws.getD j w8z).m.nm≠nm)->Is24 (knW fs ms ws nm) (.returned (.tuple #[.agg #[.int .i64 0,.string ⟨#[]⟩],.bool false]))):=fun h=>by unfold Is24 knW;rw [hpl,fnd_none h]
  have HY:Hid (∀ k,k<ws.length->(∀ j,j<k->(ws.getD j w8z).m.nm≠nm)->(ws.getD k w8z).m.nm=nm->Is24 (knW fs ms ws nm) (.returned (.tuple #[.agg #[.int .i64 (ws.getD k w8z).cd,.string (ws.getD k w8z).tx],.bool (ws.getD k w8z).ov]))):=fun k hk h1 h2=>by unfold Is24 knW;rw [hpl,fnd_at hk h1 h2]
  obtain ⟨U,hU⟩:∃ U,U=w1.alloc (.cells #[.int .i64 0,.string ⟨#[]⟩] 27):=⟨_,rfl⟩;have HU:=hI_ hU;have hBU:Below w.heap.size w U:=by rw [hU];exact hB1.alloc hB1.size _
  have hxU:Below w1.heap.size w1 U:=by rw [hU];exact bA
  have z0:=(hxU.cell (p:=⟨w.heap.size+1,0,none⟩) hz1).trans z0;have z1:=(hxU.cell (p:=⟨w.heap.size+1,1,none⟩) hz1).trans z1;have y0:=(hxU.frozen (p:=⟨w.heap.size+1,0,none⟩) hz1).trans y0;have y1:=(hxU.frozen (p:=⟨w.heap.size+1,1,none⟩) hz1).trans y1;have u0:U.cell? ⟨w1.heap.size,0,none⟩=some (.int .i64 0):=by rw [hU];simp [go_sem]
  have u1:U.cell? ⟨w1.heap.size,1,none⟩=some (.string ⟨#[]⟩):=by rw [hU];simp [go_sem]
  clear h17 hxU hU
  go_wp2_with fail
  go_loopw [10] (fun vi wr=>∃ k:Nat,k<=ws.length/\vi=.int .i64 k/\wr=U/\Hid (∀ j,j<k->(ws.getD j w8z).m.nm≠nm)) (fun vi _=>ws.length - (intOf vi).toNat)
  case atStart=>exact ⟨0,Nat.zero_le _,rfl,HU.out.symm,fun j h=>absurd h (Nat.not_lt_zero _)⟩
  obtain ⟨k,hk,rfl,rfl,hdone⟩:=hrel;by_cases hlt:k<ws.length;rotate_left
  · have HR:=hI_ (HN.out (fun j hj=>hdone.out j om_))
    have F:=G.set2_at' wr (w.heap.size+1) (.int .i64 0) (.string ⟨#[]⟩) _ _ z0 z1;clear HY HN hdone;go_wp2;refine bodyPost_ret (v:=.tuple #[.agg #[.int .i64 0,.string ⟨#[]⟩],.bool false]) (by simp [results,Tryz.results124,go_sem,F.1,F.2]) rfl ⟨HR.out,?_⟩;exact (hBU.setCell sm_ _).setCell sm_ _
  rcases HC.out with hss | ⟨ha,hbw,hcell⟩
  · rw [hss] at hlt;exact absurd hlt (Nat.not_lt_zero _)
  subst ha;have g0:=(hBU.cell (p:=⟨b,off+k*8,none⟩) hbw).trans (hcell k hlt 0 _ rfl);have g4:=(hBU.cell (p:=⟨b,off+k*8+4,none⟩) hbw).trans (hcell k hlt 4 _ rfl);have g5:=(hBU.cell (p:=⟨b,off+k*8+5,none⟩) hbw).trans (hcell k hlt 5 _ rfl);have g6:=(hBU.cell (p:=⟨b,off+k*8+6,none⟩) hbw).trans (hcell k hlt 6 _ rfl);have HY':=hI_ (HY.out k hlt hdone.out);have HD:Hid ((ws.getD k w8z).m.nm≠nm->∀ j,j<k+1->(ws.getD j w8z).m.nm≠nm):=fun h j hj=>by
   rcases Nat.lt_or_ge j k with h1 | h1
   · exact hdone.out j h1
   obtain rfl:j=k:=om_;exact h
  generalize ws.getD k w8z=x at*;obtain ⟨⟨xn,xt,xa⟩,xl,xs,xo,xc,xx,xw⟩:=x;dsimp only at*;clear hcell;cases hq:(xn.toList==nm.toList);rotate_left
  · have hnm:xn=nm:=by
     have:=beq_iff_eq.1 hq;rw [ByteArray.toList_eq,ByteArray.toList_eq] at this;exact ByteArray.ext (Array.toList_inj.1 this)
    have HR:=hI_ (HY'.out hnm);subst hnm;clear HD HY' HY HN hdone
    go_wp2_with fail
    refine wp_region_held_drew (S:=fun u=>u.cell? ⟨b,off+k*8+4,none⟩=some (.bool xo)/\u.cell? ⟨b,off+k*8+5,none⟩=some (.int .i64 xc)/\u.cell? ⟨b,off+k*8+6,none⟩=some (.string xx)) kr_ ?_ fun hHeld=>?_
    · exact ⟨g4,g5,g6⟩
    refine tq 0 hHeld ?_
    try simp only [qq]
    refine tq 1 hHeld ?_
    try simp only [qq]
    refine tq 2 hHeld ?_ (v:=?_) (hv:=?e)
    case e=>intro wq hSw;(try dsimp only at hSw);obtain ⟨s4,s5,s6⟩:=hSw;go_simp;try with_reducible rfl
    try simp only [qq]
    refine tq 3 hHeld ?_
    try simp only [qq]
    refine tq 4 hHeld ?_ (v:=?_) (hv:=?e)
    case e=>intro wq hSw;(try dsimp only at hSw);obtain ⟨s4,s5,s6⟩:=hSw;go_simp;try with_reducible rfl
    try simp only [qq]
    refine tq 5 hHeld ?_
    try simp only [qq]
    refine tq 6 hHeld ?_
    try simp only [qq]
    refine tq 7 hHeld ?_ (v:=?_) (hv:=?e)
    case e=>intro wq hSw;(try dsimp only at hSw);obtain ⟨s4,s5,s6⟩:=hSw;go_simp;try with_reducible rfl
    try simp only [qq]
    refine tq 8 hHeld ?_
    try simp only [qq]
    refine tq 9 hHeld ?_ (v:=?_) (hv:=?e)
    case e=>intro wq hSw;(try dsimp only at hSw);obtain ⟨s4,s5,s6⟩:=hSw;go_simp;try with_reducible rfl
    try simp only [qq]
    have hbn:b≠w.heap.size+1:=om_;refine rq 10 fun K hK=>?_;go_simp;clear hHeld;refine hK.out _ _ ?_ fun hHeld=>?_
    · exact ⟨(cell_set2 hbn).trans g4,(cell_set2 hbn).trans g5,(cell_set2 hbn).trans g6⟩
    clear hK K;refine tq 11 hHeld ?_
    try simp only [qq]
    refine wpAnyH_done kr_ ?_ _;have F:=G.set2_at' wr (w.heap.size+1) (.int .i64 xc) (.string xx) _ _ z0 z1;go_wp2;refine bodyPost_ret (v:=.tuple #[.agg #[.int .i64 xc,.string xx],.bool xo]) (by simp [results,Tryz.results124,go_sem,F.1,F.2]) rfl ⟨HR.out,?_⟩;have HB:=M.below_fill (N:=w.heap.size) (B:=w.heap.size+1) om_ [.int .i64 xc,.string xx] 0 hBU;exact ⟨HB.os,HB.tape,HB.output,HB.size,HB.block⟩
  have hnm:xn≠nm:=fun e=>by rw [e] at hq;simp at hq
  have HD':=hI_ (HD.out hnm);clear HD HY' HY HN hdone;go_wp2;go_roundw
  case rel=>exact ⟨k+1,om_,by go_num,trivial,HD'⟩
  case measure=>simp [intOf];omega
end Go.Proofs.YthjhakdpikdoeaaGreatDoor
