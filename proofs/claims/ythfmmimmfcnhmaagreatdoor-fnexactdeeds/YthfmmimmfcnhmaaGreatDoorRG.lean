import Derived.Test.YthfmmimmfcnhmaaGreatDoorZ15
set_option maxHeartbeats 8000000
set_option maxRecDepth 100000
namespace Go.Proofs.YthfmmimmfcnhmaaGreatDoor
open Proofs.Tryz
open Go.RowKit
def Unq (q t:List UInt8) (ok:Bool):Prop:=(ok=true->q=quoteL t)/\(ok=false->∀ l,q≠quoteL l)
def Is74 (q:List UInt8) (e:Ending):Prop:=∃ t ok,e=.returned (.tuple #[.string (ofL t),.bool ok])/\Unq q t ok
theorem ext_list (s:ByteArray) (a b:Nat):(s.extract a b).data.toList=(s.data.toList.take b).drop a:=by
 rw [ByteArray.data_extract,Array.toList_extract,List.extract_eq_take_drop,List.drop_take]
theorem drop_at (s:ByteArray) (k:Nat) (h:k<s.size):s.data.toList.drop k=s[k]::s.data.toList.drop (k+1):=by
 rw [List.drop_eq_getElem_cons (by simpa using h)]
 rfl
theorem inner_of (q:ByteArray) (h2:2<=q.size) (hf:(q[0].toNat:Int)=34) (hl:(q[q.size - 1].toNat:Int)=34):q.data.toList=34::((q.extract 1 (q.size - 1)).data.toList++[34]):=by
 have e0:q[0]=34:=UInt8.toNat_inj.1 (by have:q[0].toNat=34:=by omega
                                        rw [this];rfl)
 have e1:q[q.size - 1]=34:=UInt8.toNat_inj.1 (by have:q[q.size - 1].toNat=34:=by omega
                                                 rw [this];rfl)
 have hlen:q.data.toList.length=q.size:=by simp
 have t1:q.data.toList=q.data.toList.take (q.size - 1)++q.data.toList.drop (q.size - 1):=(List.take_append_drop _ _).symm
 have d0:=drop_at q (q.size - 1) (by omega)
 rw [e1,List.drop_of_length_le (show q.data.toList.length<=q.size - 1+1 by omega)] at d0
 have d1:=drop_at q 0 (by omega)
 rw [e0] at d1
 simp only [List.drop_zero,Nat.zero_add] at d1
 rw [ext_list]
 have t2:q.data.toList.take (q.size - 1)=34::(q.data.toList.take (q.size - 1)).drop 1:=by
  obtain ⟨m,hm⟩:∃ m,q.size - 1=m+1:=⟨q.size - 2,by omega⟩
  rw [hm]
  conv=>lhs;rw [d1]
  rw [d1]
  simp
 rw [<- List.cons_append,<- t2,<- d0]
 exact t1
theorem not_quote {q:List UInt8} (h:q.length<2\/q.headD 0≠34\/q.getLastD 0≠34):∀ l,q≠quoteL l:=by
 intro l e
 subst e
 rcases h with h | h | h
 · have:=quote_ge l;omega
 · exact h rfl
 apply h
 show (34::(l.flatMap qb++[34])).getLastD 0=34
 rw [<- List.cons_append,List.getLastD_concat]
theorem take_ext (s:ByteArray) (k:Nat) (_:k<=s.size):s.data.toList=s.data.toList.take k++(s.extract k s.size).data.toList:=by
 rw [ext_list,List.take_of_length_le (show s.data.toList.length<=s.size by simp),List.take_append_drop]
theorem c148_in (q:ByteArray) (w:World) (hs:q.size<=1048700) (h2:2<=q.size) (hf:(q[0].toNat:Int)=34) (hl:(q[q.size - 1].toNat:Int)=34):
 Calls prog 148 #[.string q] w fun e w'=>Is74 q.data.toList e/\Below w.heap.size w w':=by
 have HF:Hid (Lib.IsBuilder 216 5 w.heap.size w.heap.size [] (w.alloc (.cells #[.pointer none,.slice none 0 0] 216))):=Lib.fresh_isBuilder 216 5 w
 have HI:Hid (q.data.toList=34::((q.extract 1 (q.size - 1)).data.toList++[34])):=inner_of q h2 hf hl
 have hz:(q.extract 1 (q.size - 1)).size<=1048700:=by simp;omega
 go_enter func148,ntmps148
 go_wp2_with fail
 clear hf hl
 generalize q.extract 1 (q.size - 1)=I at*
 go_loopw [6] (fun i wr=>∃ (k:Nat) (t:List UInt8),k<=I.size/\i=.int .i64 k/\t.length<=k/\Hid (I.data.toList.take k=t.flatMap qb)/\Hid (Lib.IsBuilder 216 5 w.heap.size w.heap.size (Lib.byteCells t) wr)/\Below w.heap.size w wr/\w.heap.size+1<=wr.heap.size) (fun i _=>I.size - (intOf i).toNat)
 case atStart=>exact ⟨0,[],Nat.zero_le _,rfl,Nat.le_refl _,rfl,HF,(Below.refl _ _).alloc (Nat.le_refl _) _,by simp⟩
 obtain ⟨k,t,hk,rfl,htk,htl,hbl,hb,hzr⟩:=hrel
 by_cases hlt:k<I.size
 rotate_left
 · have HU:Hid (Unq q.data.toList t true):=by
    refine ⟨fun _=>?_,(fun h=>by cases h)⟩
    have:=htl.out
    rw [List.take_of_length_le (by simp;omega)] at this
    rw [HI.out,this];rfl
   go_wp2_with fail
   refine (Tryz.Builder_String_any w.heap.size w.heap.size t _ hbl.out (by omega)).mono ?_
   rintro e w4 ⟨rfl,hb4⟩
   go_wp2
   go_ret2
   exact ⟨⟨t,true,rfl,HU.out⟩,hb.trans hb4⟩
 go_wp2_with fail
 refine (c161 I[k] _).mono ?_
 rintro e w1 ⟨rfl,hw1⟩
 obtain rfl:=hw1.symm
 cases hp:plainB I[k]
 · have HP:Hid (plainB I[k]=false):=hp
   clear hp
   go_wp2_with fail
   refine (c163 _ _ (by simp;omega)).mono ?_
   rintro e w1 ⟨⟨c,ok,rfl,hun⟩,hw1⟩
   obtain rfl:=hw1.symm
   have HD:Hid (I.data.toList=t.flatMap qb++(I.extract k I.size).data.toList):=by rw [<- htl.out];exact take_ext I k hk
   cases ok
   · have HU:Hid (Unq q.data.toList [] false):=by
      refine ⟨(fun h=>by cases h),fun _ l e=>?_⟩
      rw [HI.out] at e
      unfold quoteL at e
      simp only [List.cons.injEq,true_and,List.append_cancel_right_eq] at e
      rw [HD.out] at e
      obtain ⟨r,hr,_⟩:=flat_pre e
      have hne:(I.extract k I.size).data.toList=I[k]::I.data.toList.drop (k+1):=by
       rw [ext_list,List.take_of_length_le (by simp),drop_at I k hlt]
      cases r with
      | nil=>rw [hr] at hne;cases hne
      | cons d r=>
       rw [hr,List.flatMap_cons] at hne
       cases hd:plainB d
       · exact hun.2 rfl d _ hd hr
       rw [qb_plain hd] at hne
       simp only [List.cons_append,List.nil_append,List.cons.injEq] at hne
       rw [hne.1,HP.out] at hd
       cases hd
     clear hun
     go_wp2
     go_ret2
     exact ⟨⟨[],false,rfl,HU.out⟩,hb⟩
   have HQ:Hid (plainB c=false/\∃ r,(I.extract k I.size).data.toList=qb c++r):=hun.1 rfl
   clear hun
   have hk3:k+3<=I.size:=by
    obtain ⟨h1,r,h2⟩:=HQ.out
    have:=congrArg List.length h2
    rw [qb_not h1] at this
    simp at this
    omega
   have HT:Hid (I.data.toList.take (k+3)=(t++[c]).flatMap qb):=by
    obtain ⟨h1,r,h2⟩:=HQ.out
    have hl:(t.flatMap qb).length=k:=by rw [<- htl.out];simp;omega
    rw [HD.out,h2,<- List.append_assoc,List.take_append_of_le_length (by rw [List.length_append,hl,qb_not h1];simp),List.take_of_length_le (by rw [List.length_append,hl,qb_not h1];simp),List.flatMap_append]
    simp [Hid]
   go_wp2_with fail
   refine (c162 w.heap.size w.heap.size (Lib.byteCells t) c.toNat _ hbl.out (by rw [cells_len];omega) (by omega)).mono ?_
   rintro e w3 ⟨rfl,h3,hb3⟩
   have H3:Hid (Lib.IsBuilder 216 5 w.heap.size w.heap.size (Lib.byteCells (t++[c])) w3):=by rw [cells_snoc];exact h3
   have hB3:Below w.heap.size w w3:=hb.trans hb3
   have hz3:w.heap.size+1<=w3.heap.size:=Nat.le_trans hzr hb3.size
   clear h3 hb3
   go_wp2
   go_roundw
   case rel=>exact ⟨k+3,t++[c],hk3,by go_num,by simp;omega,HT,H3,hB3,hz3⟩
   case measure=>simp [intOf];omega
 have HT:Hid (I.data.toList.take (k+1)=(t++[I[k]]).flatMap qb):=by
  rw [take_snoc I k hlt,htl.out,List.flatMap_append];simp [Hid,qb_plain hp]
 clear hp
 go_wp2_with fail
 refine (c162 w.heap.size w.heap.size (Lib.byteCells t) _ _ hbl.out (by rw [cells_len];omega) (by omega)).mono ?_
 rintro e w3 ⟨rfl,h3,hb3⟩
 have H3:Hid (Lib.IsBuilder 216 5 w.heap.size w.heap.size (Lib.byteCells (t++[I[k]])) w3):=by rw [cells_snoc];exact h3
 have hB3:Below w.heap.size w w3:=hb.trans hb3
 have hz3:w.heap.size+1<=w3.heap.size:=Nat.le_trans hzr hb3.size
 clear h3 hb3
 go_wp2
 go_roundw
 case rel=>exact ⟨k+1,t++[I[k]],by omega,by go_num,by simp;omega,HT,H3,hB3,hz3⟩
 case measure=>simp [intOf];omega
theorem c148 (q:ByteArray) (w:World) (hs:q.size<=1048700):
 Calls prog 148 #[.string q] w fun e w'=>Is74 q.data.toList e/\Below w.heap.size w w':=by
 by_cases h2:2<=q.size
 rotate_left
 · have HU:Hid (Is74 q.data.toList (.returned (.tuple #[.string ⟨#[]⟩,.bool false]))):=⟨[],false,rfl,(fun h=>by cases h),fun _=>not_quote (.inl (by simp;omega))⟩
   go_enter func148,ntmps148
   go_wp2
   go_ret2
   exact ⟨HU.out,Below.refl _ _⟩
 have hz0:0<q.size:=by omega
 have hz1:q.size - 1<q.size:=by omega
 by_cases hf:(q[0].toNat:Int)=34
 · by_cases hl:(q[q.size - 1].toNat:Int)=34
   · exact c148_in q w hs h2 hf hl
   have HU:Hid (Is74 q.data.toList (.returned (.tuple #[.string ⟨#[]⟩,.bool false]))):=by
    refine ⟨[],false,rfl,(fun h=>by cases h),fun _=>not_quote (.inr (.inr fun e=>hl ?_))⟩
    have d0:=drop_at q (q.size - 1) (by omega)
    rw [List.drop_of_length_le (show q.data.toList.length<=q.size - 1+1 by simp;omega)] at d0
    have:q.data.toList=q.data.toList.take (q.size - 1)++[q[q.size - 1]]:=by rw [<- d0];exact (List.take_append_drop _ _).symm
    rw [this] at e
    simp at e
    rw [e];rfl
   have e1:((q[q.size - 1].toNat:Int) !=34)=true:=by simpa using hl
   clear hl
   go_enter func148,ntmps148
   go_wp2
   go_ret2
   exact ⟨HU.out,Below.refl _ _⟩
 have HU:Hid (Is74 q.data.toList (.returned (.tuple #[.string ⟨#[]⟩,.bool false]))):=by
  refine ⟨[],false,rfl,(fun h=>by cases h),fun _=>not_quote (.inr (.inl fun e=>hf ?_))⟩
  have d1:=drop_at q 0 (by omega)
  simp only [List.drop_zero] at d1
  rw [d1] at e
  simp at e
  rw [e];rfl
 have e1:((q[0].toNat:Int) !=34)=true:=by simpa using hf
 clear hf
 go_enter func148,ntmps148
 go_wp2
 go_ret2
 exact ⟨HU.out,Below.refl _ _⟩
def Op71 (l:List UInt8) (op:Nat) (ok:Bool):Prop:=(ok=true->1<=op/\op<=11/\word op=l)/\(ok=false->∀ o:Nat,1<=o->o<=11->word o≠l)
def Is71 (l:List UInt8) (e:Ending):Prop:=∃ (op:Nat) (ok:Bool),e=.returned (.tuple #[.int .i64 op,.bool ok])/\Op71 l op ok
theorem c158 (l:List UInt8) (w:World) (hsh:ShapesAt w):
 Calls prog 158 #[.string (ofL l)] w fun e w'=>Is71 l e/\w'=w:=by
 have HSH:Hid (ShapesAt w):=hsh
 clear hsh
 go_enter func158,ntmps158
 go_wp2_with fail
 go_loop [4] (fun i=>∃ k:Nat,1<=k/\k<=12/\i=.int .i64 k/\Hid (∀ o:Nat,1<=o->o<k->word o≠l)) (fun i=>12 - (intOf i).toNat)
 case atStart=>exact ⟨1,by omega,by omega,rfl,fun o h1 h2=>by omega⟩
 obtain ⟨k,hk1,hk2,rfl,hno⟩:=hrel
 by_cases hlt:k<=11
 rotate_left
 · have HI:Hid (Is71 l (.returned (.tuple #[.int .i64 0,.bool false]))):=⟨0,false,rfl,(fun h=>by cases h),fun _ o h1 h2=>hno.out o h1 (by omega)⟩
   go_wp2
   go_ret2
   exact ⟨HI.out,rfl⟩
 obtain ⟨a0,_,_⟩:=HSH.out k hk1 hlt
 by_cases hw:word k=l
 · have HI:Hid (Is71 l (.returned (.tuple #[.int .i64 k,.bool true]))):=⟨k,true,rfl,fun _=>⟨hk1,hlt,hw⟩,(fun h=>by cases h)⟩
   have e1:((wordA k).toList==(ofL l).toList)=true:=by rw [wordA_ofL,hw];simp
   clear hw
   go_wp2
   go_ret2
   exact ⟨HI.out,rfl⟩
 have e1:((wordA k).toList==(ofL l).toList)=false:=by
  rw [wordA_ofL,ByteArray.toList_eq,ByteArray.toList_eq]
  simpa [ofL] using hw
 have hno':Hid (∀ o:Nat,1<=o->o<k+1->word o≠l):=fun o h1 h2=>by
  by_cases e:o=k
  · subst e;exact hw
  exact hno.out o h1 (by omega)
 clear hw
 go_wp2
 go_round
 case rel=>exact ⟨k+1,by omega,by omega,by go_num,hno'⟩
 case measure=>simp [intOf];omega
theorem c128w (s:ByteArray) (w:World) (hs:s.size<=1048700) (hm:MaxAt w):
 Calls prog 128 #[.string s,.string ⟨#[32]⟩] w fun e w'=>(∃ x y,e=.returned (.tuple #[.string (ofL (wordOf s.data.toList)),.string x,.bool y]))/\Below w.heap.size w w':=by
 obtain ⟨_,m,hm⟩:=hm
 refine (Tryz.strings_Cut s ⟨#[32]⟩ m w (by omega) hm).mono ?_
 rintro e w' ⟨rfl,n,rfl⟩
 refine ⟨⟨⟨(Lib.cut s.data.toList [32]).2.1.toArray⟩,(Lib.cut s.data.toList [32]).2.2,?_⟩,below_drewN n⟩
 have:ofL (wordOf s.data.toList)=⟨(Lib.cut s.data.toList [32]).1.toArray⟩:=by rw [cut_32];rfl
 rw [this]
theorem c147w (s:ByteArray) (n:Nat) (w:World) (hs:s.size<=1048700) (hn:1<=n) (hn2:n<=s.size+1) (hm:MaxAt w):
 Calls prog 147 #[.string s,.string ⟨#[32]⟩,.int .i64 n] w fun e w'=>(e=.returned (.slice (some ⟨w.heap.size,0,none⟩) (parts1 s.data.toList (n - 1)).length n)/\LinesAt w' w.heap.size (parts1 s.data.toList (n - 1)))/\Below w.heap.size w w':=by
 obtain ⟨_,m,hm⟩:=hm
 refine (Tryz.strings_SplitN s ⟨#[32]⟩ n m w (by omega) hm (by decide) hn (by omega)).mono ?_
 have hmin:min n (s.size+1)=n:=by omega
 rw [hmin]
 have hd:Lib.splitB ⟨#[32]⟩ 0 (n - 1) s=(parts1 s.data.toList (n - 1)).map ofL:=toL_inj (Lib.splitB_data ⟨#[32]⟩ 0 (n - 1) s)
 have hlen:(parts1 s.data.toList (n - 1)).length<=n:=by
  have:=Lib.splitB_length_le ⟨#[32]⟩ 0 (n - 1) s
  rw [hd,List.length_map] at this;omega
 rintro e w' ⟨rfl,rfl⟩
 rw [hd]
 refine ⟨⟨by rw [List.length_map],by simp,fun i hi=>?_⟩,(Below.refl _ _).alloc (Nat.le_refl _) _⟩
 have hc:(Lib.cellsOf ((parts1 s.data.toList (n - 1)).map ofL) n)[i]?=some (.string (ofL ((parts1 s.data.toList (n - 1)).getD i []))):=by
  unfold Lib.cellsOf
  rw [List.getElem?_toArray,List.getElem?_append_left (by simpa using hi)]
  simp [hi]
 rw [<- hc]
 simp
theorem words_two:∀ i:Fin 12,1<=i.val->2<=(word ((i.val:Nat):Int)).length:=by decide
theorem word_two (op:Nat) (h1:1<=op) (h2:op<=11):2<=(word op).length:=words_two ⟨op,by omega⟩ h1
def Is41 (l:List UInt8) (e:Ending):Prop:=∃ (x:I3) (ok:Bool),e=.returned (.tuple #[.agg #[.int .i64 x.op,.string x.tx,.int .i64 x.to],.bool ok])/\IsBody l x ok
theorem rz {w u:World} (hb:Below (w.heap.size+1) (w.alloc (.cells #[.int .i64 0,.string ⟨#[]⟩,.int .i64 0] 183)) u):
 (u.cell? ⟨w.heap.size,0,none⟩=some (.int .i64 0)/\u.cell? ⟨w.heap.size,1,none⟩=some (.string ⟨#[]⟩)/\u.cell? ⟨w.heap.size,2,none⟩=some (.int .i64 0))/\u.frozen? ⟨w.heap.size,0,none⟩=false/\u.frozen? ⟨w.heap.size,1,none⟩=false/\u.frozen? ⟨w.heap.size,2,none⟩=false:=by
 have c:∀ j,u.cell? ⟨w.heap.size,j,none⟩=(w.alloc (.cells #[.int .i64 0,.string ⟨#[]⟩,.int .i64 0] 183)).cell? ⟨w.heap.size,j,none⟩:=fun j=>hb.cell (by simp)
 have f:∀ j,u.frozen? ⟨w.heap.size,j,none⟩=(w.alloc (.cells #[.int .i64 0,.string ⟨#[]⟩,.int .i64 0] 183)).frozen? ⟨w.heap.size,j,none⟩:=fun j=>hb.frozen (by simp)
 rw [c,c,c,f,f,f]
 simp
theorem pset {w:World} {p q:Addr} {x:Value} (hne:q.block≠p.block) (h:w.cell? p=some x) (v:Value):(w.setCell q v).cell? p=some x:=by
 rw [World.cell?_setCell_other _ _ _ _ (fun e=>hne (by rw [e]))];exact h
theorem c154' (l:List UInt8) (w:World) (hs:l.length<=1048700):Calls prog 154 #[.string (ofL l),.int .i64 40] w fun e w'=>e=.returned (.tuple #[.int .i64 (rn40 l),.bool (num40 l)])/\w'=w:=c154 (ofL l) w (by rw [ofL_size];exact hs)
theorem c148' (l:List UInt8) (w:World) (hs:l.length<=1048700):Calls prog 148 #[.string (ofL l)] w fun e w'=>Is74 l e/\Below w.heap.size w w':=c148 (ofL l) w (by rw [ofL_size];exact hs)
theorem c140 (s:ByteArray) (w:World) (hs:s.size<=300) (hsh:ShapesAt w) (hmx:MaxAt w):
 Calls prog 140 #[.string s] w fun e w'=>Is41 s.data.toList e/\Below w.heap.size w w':=by
 have HSH:Hid (ShapesAt w):=hsh
 have HMX:Hid (MaxAt w):=hmx
 clear hsh hmx
 have hlen:s.data.toList.length=s.size:=by simp
 have hB0:Below w.heap.size w (w.alloc (.cells #[.int .i64 0,.string ⟨#[]⟩,.int .i64 0] 183)):=(Below.refl _ _).alloc (Nat.le_refl _) _
 go_enter func140,ntmps140
 go_wp2_with fail
 refine (c128w s _ (by omega) (max_below HMX.out hB0)).mono ?_
 rintro e w1 ⟨⟨cx,cy,rfl⟩,hb1⟩
 have hx1:Below (w.heap.size+1) (w.alloc (.cells #[.int .i64 0,.string ⟨#[]⟩,.int .i64 0] 183)) w1:=by simpa using hb1
 have hB1:Below w.heap.size w w1:=hB0.trans (hx1.mono (by omega))
 clear hb1
 go_wp2_with fail
 refine (c158 _ _ (shapes_below HSH.out hB1)).mono ?_
 rintro e w2 ⟨⟨op,ok,rfl,hop⟩,hw2⟩
 obtain rfl:=hw2.symm
 cases ok
 · have HI:Hid (Is41 s.data.toList (.returned (.tuple #[.agg #[.int .i64 0,.string ⟨#[]⟩,.int .i64 0],.bool false]))):=⟨⟨0,⟨#[]⟩,0⟩,false,rfl,isBody_no _ _ (noBody_op (hop.2 rfl))⟩
   clear hop
   obtain ⟨⟨z0,z1,z2⟩,y0,y1,y2⟩:=rz hx1
   go_wp2
   refine bodyPost_ret (v:=.tuple #[.agg #[.int .i64 0,.string ⟨#[]⟩,.int .i64 0],.bool false]) (by simp [results,Tryz.results140,go_sem,z0,z1,z2]) rfl ⟨HI.out,((hB1.setCell (by simp) _).setCell (by simp) _).setCell (by simp) _⟩
 obtain ⟨ho1,ho2,how⟩:=hop.1 rfl
 clear hop
 obtain ⟨a0,b0,c0⟩:=shapes_below HSH.out hB1 op ho1 ho2
 have hsz2:2<=s.size:=by
  have h1:=word_two op ho1 ho2
  rw [how] at h1
  have h2:(wordOf s.data.toList).length<=s.data.toList.length:=(List.takeWhile_sublist _).length_le
  omega
 have hA3:∀ o,Below (w.heap.size+1) (w.alloc (.cells #[.int .i64 0,.string ⟨#[]⟩,.int .i64 0] 183)) (w1.alloc o):=fun o=>hx1.alloc (by have:=hx1.size;simp at this;omega) _
 have hz1:w.heap.size+1<=w1.heap.size:=by have:=hx1.size;simp at this;omega
 cases hO:usesTo op <;> cases hX:usesTx op
 · have HB:=isBody_00 ho1 ho2 how hO hX
   rw [hO] at b0
   rw [hX] at c0
   go_wp2_with fail
   refine (c147w s 1 _ (by omega) (by omega) (by omega) (max_below HMX.out (hB1.alloc hB1.size _))).mono ?_
   rintro e w4 ⟨⟨rfl,hln⟩,hb4⟩
   have hx4:=(hA3 (.cells #[.string (wordA op),.bool false,.bool false] 253)).trans (hb4.mono (by simp;omega))
   have hB4:Below w.heap.size w w4:=hB0.trans (hx4.mono (by omega))
   have hz4:w1.heap.size+2<=w4.heap.size:=by have:=hln.1;simp at this;omega
   have s1:w4.cell? ⟨w1.heap.size,1,none⟩=some (.bool false):=(hb4.cell (p:=⟨w1.heap.size,1,none⟩) (by simp)).trans (by simp [go_sem])
   have s2:w4.cell? ⟨w1.heap.size,2,none⟩=some (.bool false):=(hb4.cell (p:=⟨w1.heap.size,2,none⟩) (by simp)).trans (by simp [go_sem])
   have s1':=past (by show w1.heap.size<w4.heap.size;omega) s1
   have s2':=past (by show w1.heap.size<w4.heap.size;omega) s2
   obtain ⟨⟨z0,z1,z2⟩,y0,y1,y2⟩:=rz hx4
   have hRlt:w.heap.size<w4.heap.size:=by omega
   have z0':=past (by exact hRlt) z0
   have z1':=past (by exact hRlt) z1
   have z2':=past (by exact hRlt) z2
   have y0':=pastf (by exact hRlt) y0
   have y1':=pastf (by exact hRlt) y1
   have y2':=pastf (by exact hRlt) y2
   have HLN:Hid (LinesAt w4 (w1.heap.size+1) (parts1 s.data.toList (1 - 1))):=by have h:=hln;simp at h;exact h
   clear hln hb4
   have p0:w4.cell? ⟨w1.heap.size+1,0,none⟩=some (.string (ofL s.data.toList)):=by have:=HLN.out.2 0 (by simp [parts_zero]);simpa [parts_zero] using this
   have hpl:(parts1 s.data.toList (1 - 1)).length=1:=rfl
   rw [hpl]
   by_cases hw:s.data.toList=wordOf s.data.toList
   · have HI:Hid (Is41 s.data.toList (.returned (.tuple #[.agg #[.int .i64 op,.string ⟨#[]⟩,.int .i64 0],.bool true]))):=⟨⟨op,⟨#[]⟩,0⟩,true,rfl,HB.1 hw⟩
     have e1:((ofL s.data.toList).toList==(ofL (wordOf s.data.toList)).toList)=true:=by rw [<- hw];simp
     clear hw HB hO hX
     go_wp2
     have F:=set3_at w4 w.heap.size 0 (.int .i64 op) (.string ⟨#[]⟩) (.int .i64 0) _ _ _ z0 z1 z2
     simp only [Nat.zero_add] at F
     have G0:=past (p:=⟨w.heap.size,0,none⟩) (by simpa using hRlt) F.1
     have G1:=past (p:=⟨w.heap.size,1,none⟩) (by simpa using hRlt) F.2.1
     have G2:=past (p:=⟨w.heap.size,2,none⟩) (by simpa using hRlt) F.2.2
     refine bodyPost_ret (v:=.tuple #[.agg #[.int .i64 op,.string ⟨#[]⟩,.int .i64 0],.bool true]) (by simp [results,Tryz.results140,go_sem,G0,G1,G2]) rfl ⟨HI.out,(((hB4.setCell (by simp) _).setCell (by simp) _).setCell (by simp) _).alloc (by simpa using hB4.size) _⟩
   have HI:Hid (Is41 s.data.toList (.returned (.tuple #[.agg #[.int .i64 0,.string ⟨#[]⟩,.int .i64 0],.bool false]))):=⟨⟨0,⟨#[]⟩,0⟩,false,rfl,isBody_no _ _ (HB.2 hw)⟩
   have e1:((ofL s.data.toList).toList==(ofL (wordOf s.data.toList)).toList)=false:=by
    rw [ByteArray.toList_eq,ByteArray.toList_eq]
    simpa [ofL] using hw
   clear hw HB hO hX
   go_wp2
   refine bodyPost_ret (v:=.tuple #[.agg #[.int .i64 0,.string ⟨#[]⟩,.int .i64 0],.bool false]) (by simp [results,Tryz.results140,go_sem,z0,z1,z2]) rfl ⟨HI.out,((hB4.setCell (by simp) _).setCell (by simp) _).setCell (by simp) _⟩
 · have HBY:=isBody_01 ho1 ho2 how hO hX
   have HBN:=no_blank ho1 ho2 how (.inr hX)
   rw [hO] at b0
   rw [hX] at c0
   go_wp2_with fail
   refine (c147w s 2 _ (by omega) (by omega) (by omega) (max_below HMX.out (hB1.alloc hB1.size _))).mono ?_
   rintro e w4 ⟨⟨rfl,hln⟩,hb4⟩
   have hx4:=(hA3 (.cells #[.string (wordA op),.bool false,.bool true] 253)).trans (hb4.mono (by simp;omega))
   have hB4:Below w.heap.size w w4:=hB0.trans (hx4.mono (by omega))
   have hz4:w1.heap.size+2<=w4.heap.size:=by have:=hln.1;simp at this;omega
   have s1:w4.cell? ⟨w1.heap.size,1,none⟩=some (.bool false):=(hb4.cell (p:=⟨w1.heap.size,1,none⟩) (by simp)).trans (by simp [go_sem])
   have s2:w4.cell? ⟨w1.heap.size,2,none⟩=some (.bool true):=(hb4.cell (p:=⟨w1.heap.size,2,none⟩) (by simp)).trans (by simp [go_sem])
   have s1':=past (by show w1.heap.size<w4.heap.size;omega) s1
   have s2':=past (by show w1.heap.size<w4.heap.size;omega) s2
   obtain ⟨⟨z0,z1,z2⟩,y0,y1,y2⟩:=rz hx4
   have hRlt:w.heap.size<w4.heap.size:=by omega
   have z0':=past (by exact hRlt) z0
   have z1':=past (by exact hRlt) z1
   have z2':=past (by exact hRlt) z2
   have y0':=pastf (by exact hRlt) y0
   have y1':=pastf (by exact hRlt) y1
   have y2':=pastf (by exact hRlt) y2
   have HLN:Hid (LinesAt w4 (w1.heap.size+1) (parts1 s.data.toList (2 - 1))):=by have h:=hln;simp at h;exact h
   clear hln hb4
   by_cases hm:(32:UInt8)∈s.data.toList
   rotate_left
   · have hpp:parts1 s.data.toList (2 - 1)=[s.data.toList]:=parts_no _ hm
     rw [hpp]
     have hpl:([s.data.toList]:List (List UInt8)).length=1:=rfl
     rw [hpl]
     have HI:Hid (Is41 s.data.toList (.returned (.tuple #[.agg #[.int .i64 0,.string ⟨#[]⟩,.int .i64 0],.bool false]))):=⟨⟨0,⟨#[]⟩,0⟩,false,rfl,isBody_no _ _ (HBN hm)⟩
     clear HBY HBN hO hX hm
     go_wp2
     refine bodyPost_ret (v:=.tuple #[.agg #[.int .i64 0,.string ⟨#[]⟩,.int .i64 0],.bool false]) (by simp [results,Tryz.results140,go_sem,z0,z1,z2]) rfl ⟨HI.out,((hB4.setCell (by simp) _).setCell (by simp) _).setCell (by simp) _⟩
   have hpp:parts1 s.data.toList (2 - 1)=[wordOf s.data.toList,restOf s.data.toList]:=by show parts1 s.data.toList (0+1)=_;rw [parts_yes 0 hm,parts_zero]
   rw [hpp] at HLN ⊢
   have p0:w4.cell? ⟨w1.heap.size+1,0,none⟩=some (.string (ofL (wordOf s.data.toList))):=HLN.out.2 0 (by simp)
   have p1:w4.cell? ⟨w1.heap.size+1,1,none⟩=some (.string (ofL (restOf s.data.toList))):=HLN.out.2 1 (by simp)
   have p1':=past (by show w1.heap.size+1<w4.heap.size;omega) p1
   have hpl:([wordOf s.data.toList,restOf s.data.toList]:List (List UInt8)).length=2:=rfl
   rw [hpl]
   have HY:Hid (∀ t ok,Unq (restOf s.data.toList) t ok->IsBody s.data.toList ⟨op,ofL t,0⟩ ok):=fun t ok hu=>HBY hm (by omega) hu
   have hrz:(ofL (restOf s.data.toList)).size<=300:=by
    rw [ofL_size]
    have:=congrArg List.length (word_parts hm).1
    rw [List.length_append,List.length_cons] at this;omega
   clear HBY HBN hO hX hm
   go_wp2_with fail
   refine (c148' _ _ (by rw [ofL_size] at hrz;omega)).mono ?_
   rintro e w6 ⟨⟨t,ok,rfl,hun⟩,hb6'⟩
   have hb6:Below (w4.heap.size+1) (w4.alloc (.cells #[.int .i64 op,.string ⟨#[]⟩,.int .i64 0] 183)) w6:=by have h:=hb6';simp at h;exact h
   clear hb6'
   have cx6:∀ p:Addr,p.block<w4.heap.size->w6.cell? p=w4.cell? p:=fun p hp=>(hb6.cell (by omega)).trans (((Below.refl w4.heap.size w4).alloc (Nat.le_refl _) _).cell hp)
   have f6:∀ p:Addr,p.block<w4.heap.size->w6.frozen? p=w4.frozen? p:=fun p hp=>(hb6.frozen (by omega)).trans (((Below.refl w4.heap.size w4).alloc (Nat.le_refl _) _).frozen hp)
   have t1:w6.cell? ⟨w1.heap.size,1,none⟩=some (.bool false):=(cx6 _ (by show w1.heap.size<w4.heap.size;omega)).trans s1
   have t2:w6.cell? ⟨w1.heap.size,2,none⟩=some (.bool true):=(cx6 _ (by show w1.heap.size<w4.heap.size;omega)).trans s2
   have x0:w6.cell? ⟨w.heap.size,0,none⟩=some (.int .i64 0):=(cx6 _ hRlt).trans z0
   have x1:w6.cell? ⟨w.heap.size,1,none⟩=some (.string ⟨#[]⟩):=(cx6 _ hRlt).trans z1
   have x2:w6.cell? ⟨w.heap.size,2,none⟩=some (.int .i64 0):=(cx6 _ hRlt).trans z2
   have v0:w6.frozen? ⟨w.heap.size,0,none⟩=false:=(f6 _ hRlt).trans y0
   have v1:w6.frozen? ⟨w.heap.size,1,none⟩=false:=(f6 _ hRlt).trans y1
   have v2:w6.frozen? ⟨w.heap.size,2,none⟩=false:=(f6 _ hRlt).trans y2
   have i0:w6.cell? ⟨w4.heap.size,0,none⟩=some (.int .i64 op):=(hb6.cell (p:=⟨w4.heap.size,0,none⟩) (by simp)).trans (by simp [go_sem])
   have i1:w6.cell? ⟨w4.heap.size,1,none⟩=some (.string ⟨#[]⟩):=(hb6.cell (p:=⟨w4.heap.size,1,none⟩) (by simp)).trans (by simp [go_sem])
   have i2:w6.cell? ⟨w4.heap.size,2,none⟩=some (.int .i64 0):=(hb6.cell (p:=⟨w4.heap.size,2,none⟩) (by simp)).trans (by simp [go_sem])
   have j0:∀ k,w6.frozen? ⟨w4.heap.size,k,none⟩=false:=fun k=>(hb6.frozen (p:=⟨w4.heap.size,k,none⟩) (by simp)).trans (by simp [go_sem])
   have j1:=j0 1
   have j2:=j0 2
   have u1:=(cx6 ⟨w1.heap.size+1,1,none⟩ (by show w1.heap.size+1<w4.heap.size;omega)).trans p1
   have hB6:Below w.heap.size w w6:=(hB4.alloc hB4.size _).trans (hb6.mono (by omega))
   have hz6:w4.heap.size+1<=w6.heap.size:=by have:=hb6.size;simp at this;omega
   clear s1' s2' z0' z1' z2' y0' y1' y2' s1 s2 z0 z1 z2 y0 y1 y2 cx6 f6 hb6 j0
   have hq1:w4.heap.size≠w1.heap.size:=by omega
   have hq2:w4.heap.size≠w.heap.size:=by omega
   have k1:=pset (q:=⟨w4.heap.size,1,none⟩) (by exact hq1) t1 (.string (ofL t))
   have k2:=pset (q:=⟨w4.heap.size,1,none⟩) (by exact hq1) t2 (.string (ofL t))
   have m0:=pset (q:=⟨w4.heap.size,1,none⟩) (by exact hq2) x0 (.string (ofL t))
   have m1:=pset (q:=⟨w4.heap.size,1,none⟩) (by exact hq2) x1 (.string (ofL t))
   have m2:=pset (q:=⟨w4.heap.size,1,none⟩) (by exact hq2) x2 (.string (ofL t))
   have HI:Hid (Is41 s.data.toList (.returned (.tuple #[.agg #[.int .i64 op,.string (ofL t),.int .i64 0],.bool ok]))):=⟨⟨op,(ofL t),0⟩,ok,rfl,HY.out t ok hun⟩
   clear hun
   go_wp2
   have F:=set3_at (w6.setCell ⟨w4.heap.size,1,none⟩ (.string (ofL t))) w.heap.size 0 (.int .i64 op) (.string (ofL t)) (.int .i64 0) _ _ _ m0 m1 m2
   simp only [Nat.zero_add] at F
   refine bodyPost_ret (v:=.tuple #[.agg #[.int .i64 op,.string (ofL t),.int .i64 0],.bool ok]) (by simp [results,Tryz.results140,go_sem,F]) rfl ⟨HI.out,((((hB6.setCell (by simp;omega) _).setCell (by simp) _).setCell (by simp) _).setCell (by simp) _)⟩
 · have HBY:=isBody_10 ho1 ho2 how hO hX
   have HBN:=no_blank ho1 ho2 how (.inl hO)
   rw [hO] at b0
   rw [hX] at c0
   go_wp2_with fail
   refine (c147w s 2 _ (by omega) (by omega) (by omega) (max_below HMX.out (hB1.alloc hB1.size _))).mono ?_
   rintro e w4 ⟨⟨rfl,hln⟩,hb4⟩
   have hx4:=(hA3 (.cells #[.string (wordA op),.bool true,.bool false] 253)).trans (hb4.mono (by simp;omega))
   have hB4:Below w.heap.size w w4:=hB0.trans (hx4.mono (by omega))
   have hz4:w1.heap.size+2<=w4.heap.size:=by have:=hln.1;simp at this;omega
   have s1:w4.cell? ⟨w1.heap.size,1,none⟩=some (.bool true):=(hb4.cell (p:=⟨w1.heap.size,1,none⟩) (by simp)).trans (by simp [go_sem])
   have s2:w4.cell? ⟨w1.heap.size,2,none⟩=some (.bool false):=(hb4.cell (p:=⟨w1.heap.size,2,none⟩) (by simp)).trans (by simp [go_sem])
   have s1':=past (by show w1.heap.size<w4.heap.size;omega) s1
   have s2':=past (by show w1.heap.size<w4.heap.size;omega) s2
   obtain ⟨⟨z0,z1,z2⟩,y0,y1,y2⟩:=rz hx4
   have hRlt:w.heap.size<w4.heap.size:=by omega
   have z0':=past (by exact hRlt) z0
   have z1':=past (by exact hRlt) z1
   have z2':=past (by exact hRlt) z2
   have y0':=pastf (by exact hRlt) y0
   have y1':=pastf (by exact hRlt) y1
   have y2':=pastf (by exact hRlt) y2
   have HLN:Hid (LinesAt w4 (w1.heap.size+1) (parts1 s.data.toList (2 - 1))):=by have h:=hln;simp at h;exact h
   clear hln hb4
   by_cases hm:(32:UInt8)∈s.data.toList
   rotate_left
   · have hpp:parts1 s.data.toList (2 - 1)=[s.data.toList]:=parts_no _ hm
     rw [hpp]
     have hpl:([s.data.toList]:List (List UInt8)).length=1:=rfl
     rw [hpl]
     have HI:Hid (Is41 s.data.toList (.returned (.tuple #[.agg #[.int .i64 0,.string ⟨#[]⟩,.int .i64 0],.bool false]))):=⟨⟨0,⟨#[]⟩,0⟩,false,rfl,isBody_no _ _ (HBN hm)⟩
     clear HBY HBN hO hX hm
     go_wp2
     refine bodyPost_ret (v:=.tuple #[.agg #[.int .i64 0,.string ⟨#[]⟩,.int .i64 0],.bool false]) (by simp [results,Tryz.results140,go_sem,z0,z1,z2]) rfl ⟨HI.out,((hB4.setCell (by simp) _).setCell (by simp) _).setCell (by simp) _⟩
   have hpp:parts1 s.data.toList (2 - 1)=[wordOf s.data.toList,restOf s.data.toList]:=by show parts1 s.data.toList (0+1)=_;rw [parts_yes 0 hm,parts_zero]
   rw [hpp] at HLN ⊢
   have p0:w4.cell? ⟨w1.heap.size+1,0,none⟩=some (.string (ofL (wordOf s.data.toList))):=HLN.out.2 0 (by simp)
   have p1:w4.cell? ⟨w1.heap.size+1,1,none⟩=some (.string (ofL (restOf s.data.toList))):=HLN.out.2 1 (by simp)
   have p1':=past (by show w1.heap.size+1<w4.heap.size;omega) p1
   have hpl:([wordOf s.data.toList,restOf s.data.toList]:List (List UInt8)).length=2:=rfl
   rw [hpl]
   have HI:Hid (Is41 s.data.toList (.returned (.tuple #[.agg #[.int .i64 op,.string ⟨#[]⟩,.int .i64 (rn40 (restOf s.data.toList))],.bool (num40 (restOf s.data.toList))]))):=⟨⟨op,⟨#[]⟩,(rn40 (restOf s.data.toList))⟩,(num40 (restOf s.data.toList)),rfl,HBY hm⟩
   have hrz:(ofL (restOf s.data.toList)).size<=300:=by
    rw [ofL_size]
    have:=congrArg List.length (word_parts hm).1
    rw [List.length_append,List.length_cons] at this;omega
   clear HBY HBN hO hX hm
   go_wp2_with fail
   refine (c154' _ _ (by rw [ofL_size] at hrz;omega)).mono ?_
   rintro e w6 ⟨rfl,hw6⟩
   have hb6:Below (w4.heap.size+1) (w4.alloc (.cells #[.int .i64 op,.string ⟨#[]⟩,.int .i64 0] 183)) w6:=by rw [hw6];exact Below.refl _ _
   clear hw6
   have cx6:∀ p:Addr,p.block<w4.heap.size->w6.cell? p=w4.cell? p:=fun p hp=>(hb6.cell (by omega)).trans (((Below.refl w4.heap.size w4).alloc (Nat.le_refl _) _).cell hp)
   have f6:∀ p:Addr,p.block<w4.heap.size->w6.frozen? p=w4.frozen? p:=fun p hp=>(hb6.frozen (by omega)).trans (((Below.refl w4.heap.size w4).alloc (Nat.le_refl _) _).frozen hp)
   have t1:w6.cell? ⟨w1.heap.size,1,none⟩=some (.bool true):=(cx6 _ (by show w1.heap.size<w4.heap.size;omega)).trans s1
   have t2:w6.cell? ⟨w1.heap.size,2,none⟩=some (.bool false):=(cx6 _ (by show w1.heap.size<w4.heap.size;omega)).trans s2
   have x0:w6.cell? ⟨w.heap.size,0,none⟩=some (.int .i64 0):=(cx6 _ hRlt).trans z0
   have x1:w6.cell? ⟨w.heap.size,1,none⟩=some (.string ⟨#[]⟩):=(cx6 _ hRlt).trans z1
   have x2:w6.cell? ⟨w.heap.size,2,none⟩=some (.int .i64 0):=(cx6 _ hRlt).trans z2
   have v0:w6.frozen? ⟨w.heap.size,0,none⟩=false:=(f6 _ hRlt).trans y0
   have v1:w6.frozen? ⟨w.heap.size,1,none⟩=false:=(f6 _ hRlt).trans y1
   have v2:w6.frozen? ⟨w.heap.size,2,none⟩=false:=(f6 _ hRlt).trans y2
   have i0:w6.cell? ⟨w4.heap.size,0,none⟩=some (.int .i64 op):=(hb6.cell (p:=⟨w4.heap.size,0,none⟩) (by simp)).trans (by simp [go_sem])
   have i1:w6.cell? ⟨w4.heap.size,1,none⟩=some (.string ⟨#[]⟩):=(hb6.cell (p:=⟨w4.heap.size,1,none⟩) (by simp)).trans (by simp [go_sem])
   have i2:w6.cell? ⟨w4.heap.size,2,none⟩=some (.int .i64 0):=(hb6.cell (p:=⟨w4.heap.size,2,none⟩) (by simp)).trans (by simp [go_sem])
   have j0:∀ k,w6.frozen? ⟨w4.heap.size,k,none⟩=false:=fun k=>(hb6.frozen (p:=⟨w4.heap.size,k,none⟩) (by simp)).trans (by simp [go_sem])
   have j1:=j0 1
   have j2:=j0 2
   have u1:=(cx6 ⟨w1.heap.size+1,1,none⟩ (by show w1.heap.size+1<w4.heap.size;omega)).trans p1
   have hB6:Below w.heap.size w w6:=(hB4.alloc hB4.size _).trans (hb6.mono (by omega))
   have hz6:w4.heap.size+1<=w6.heap.size:=by have:=hb6.size;simp at this;omega
   clear s1' s2' z0' z1' z2' y0' y1' y2' s1 s2 z0 z1 z2 y0 y1 y2 cx6 f6 hb6 j0
   generalize rn40 (restOf s.data.toList)=N at*
   generalize num40 (restOf s.data.toList)=ok at*
   have hq1:w4.heap.size≠w1.heap.size:=by omega
   have hq2:w4.heap.size≠w.heap.size:=by omega
   have k1:=pset (q:=⟨w4.heap.size,2,none⟩) (by exact hq1) t1 (.int .i64 N)
   have k2:=pset (q:=⟨w4.heap.size,2,none⟩) (by exact hq1) t2 (.int .i64 N)
   have m0:=pset (q:=⟨w4.heap.size,2,none⟩) (by exact hq2) x0 (.int .i64 N)
   have m1:=pset (q:=⟨w4.heap.size,2,none⟩) (by exact hq2) x1 (.int .i64 N)
   have m2:=pset (q:=⟨w4.heap.size,2,none⟩) (by exact hq2) x2 (.int .i64 N)
   cases ok
   all_goals
    go_wp2
   · have F:=set3_at (w6.setCell ⟨w4.heap.size,2,none⟩ (.int .i64 N)) w.heap.size 0 (.int .i64 op) (.string ⟨#[]⟩) (.int .i64 N) _ _ _ m0 m1 m2
     simp only [Nat.zero_add] at F
     refine bodyPost_ret (v:=.tuple #[.agg #[.int .i64 op,.string ⟨#[]⟩,.int .i64 N],.bool false]) (by simp [results,Tryz.results140,go_sem,F]) rfl ⟨HI.out,((((hB6.setCell (by simp;omega) _).setCell (by simp) _).setCell (by simp) _).setCell (by simp) _)⟩
   have F:=set3_at (w6.setCell ⟨w4.heap.size,2,none⟩ (.int .i64 N)) w.heap.size 0 (.int .i64 op) (.string ⟨#[]⟩) (.int .i64 N) _ _ _ m0 m1 m2
   simp only [Nat.zero_add] at F
   refine bodyPost_ret (v:=.tuple #[.agg #[.int .i64 op,.string ⟨#[]⟩,.int .i64 N],.bool true]) (by simp [results,Tryz.results140,go_sem,F]) rfl ⟨HI.out,((((hB6.setCell (by simp;omega) _).setCell (by simp) _).setCell (by simp) _).setCell (by simp) _)⟩
 have HBY:=fun (hm:(32:UInt8)∈s.data.toList) (hm2:(32:UInt8)∈restOf s.data.toList) (hn:num40 (wordOf (restOf s.data.toList))=true) (t:List UInt8) (ok:Bool) (hu:Unq (restOf (restOf s.data.toList)) t ok)=>isBody_11 ho1 ho2 how hO hX hm hm2 (by omega) hn hu
 have HBN:=no_blank ho1 ho2 how (.inl hO)
 have HBM:=no_blank2 ho1 ho2 how hO hX
 have HBQ:=noBody_11 ho1 ho2 how hO hX
 rw [hO] at b0
 rw [hX] at c0
 go_wp2_with fail
 refine (c147w s 3 _ (by omega) (by omega) (by omega) (max_below HMX.out (hB1.alloc hB1.size _))).mono ?_
 rintro e w4 ⟨⟨rfl,hln⟩,hb4⟩
 have hx4:=(hA3 (.cells #[.string (wordA op),.bool true,.bool true] 253)).trans (hb4.mono (by simp;omega))
 have hB4:Below w.heap.size w w4:=hB0.trans (hx4.mono (by omega))
 have hz4:w1.heap.size+2<=w4.heap.size:=by have:=hln.1;simp at this;omega
 have s1:w4.cell? ⟨w1.heap.size,1,none⟩=some (.bool true):=(hb4.cell (p:=⟨w1.heap.size,1,none⟩) (by simp)).trans (by simp [go_sem])
 have s2:w4.cell? ⟨w1.heap.size,2,none⟩=some (.bool true):=(hb4.cell (p:=⟨w1.heap.size,2,none⟩) (by simp)).trans (by simp [go_sem])
 have s1':=past (by show w1.heap.size<w4.heap.size;omega) s1
 have s2':=past (by show w1.heap.size<w4.heap.size;omega) s2
 obtain ⟨⟨z0,z1,z2⟩,y0,y1,y2⟩:=rz hx4
 have hRlt:w.heap.size<w4.heap.size:=by omega
 have z0':=past (by exact hRlt) z0
 have z1':=past (by exact hRlt) z1
 have z2':=past (by exact hRlt) z2
 have y0':=pastf (by exact hRlt) y0
 have y1':=pastf (by exact hRlt) y1
 have y2':=pastf (by exact hRlt) y2
 have HLN:Hid (LinesAt w4 (w1.heap.size+1) (parts1 s.data.toList (3 - 1))):=by have h:=hln;simp at h;exact h
 clear hln hb4
 by_cases hm:(32:UInt8)∈s.data.toList
 rotate_left
 · have hpp:parts1 s.data.toList (3 - 1)=[s.data.toList]:=parts_no _ hm
   rw [hpp]
   have hpl:([s.data.toList]:List (List UInt8)).length=1:=rfl
   rw [hpl]
   have HI:Hid (Is41 s.data.toList (.returned (.tuple #[.agg #[.int .i64 0,.string ⟨#[]⟩,.int .i64 0],.bool false]))):=⟨⟨0,⟨#[]⟩,0⟩,false,rfl,isBody_no _ _ (HBN hm)⟩
   clear HBY HBN HBM HBQ hO hX hm
   go_wp2
   refine bodyPost_ret (v:=.tuple #[.agg #[.int .i64 0,.string ⟨#[]⟩,.int .i64 0],.bool false]) (by simp [results,Tryz.results140,go_sem,z0,z1,z2]) rfl ⟨HI.out,((hB4.setCell (by simp) _).setCell (by simp) _).setCell (by simp) _⟩
 by_cases hm2:(32:UInt8)∈restOf s.data.toList
 rotate_left
 · have hpp:parts1 s.data.toList (3 - 1)=[wordOf s.data.toList,restOf s.data.toList]:=by show parts1 s.data.toList (1+1)=_;rw [parts_yes 1 hm,parts_no 1 hm2]
   rw [hpp]
   have hpl:([wordOf s.data.toList,restOf s.data.toList]:List (List UInt8)).length=2:=rfl
   rw [hpl]
   have HI:Hid (Is41 s.data.toList (.returned (.tuple #[.agg #[.int .i64 0,.string ⟨#[]⟩,.int .i64 0],.bool false]))):=⟨⟨0,⟨#[]⟩,0⟩,false,rfl,isBody_no _ _ (HBM hm2)⟩
   clear HBY HBN HBM HBQ hO hX hm hm2
   go_wp2
   refine bodyPost_ret (v:=.tuple #[.agg #[.int .i64 0,.string ⟨#[]⟩,.int .i64 0],.bool false]) (by simp [results,Tryz.results140,go_sem,z0,z1,z2]) rfl ⟨HI.out,((hB4.setCell (by simp) _).setCell (by simp) _).setCell (by simp) _⟩
 have hpp:parts1 s.data.toList (3 - 1)=[wordOf s.data.toList,wordOf (restOf s.data.toList),restOf (restOf s.data.toList)]:=by show parts1 s.data.toList (1+1)=_;rw [parts_yes 1 hm,parts_yes 0 hm2,parts_zero]
 rw [hpp] at HLN ⊢
 have p0:w4.cell? ⟨w1.heap.size+1,0,none⟩=some (.string (ofL (wordOf s.data.toList))):=HLN.out.2 0 (by simp)
 have p1:w4.cell? ⟨w1.heap.size+1,1,none⟩=some (.string (ofL (wordOf (restOf s.data.toList)))):=HLN.out.2 1 (by simp)
 have p2:w4.cell? ⟨w1.heap.size+1,2,none⟩=some (.string (ofL (restOf (restOf s.data.toList)))):=HLN.out.2 2 (by simp)
 have p1':=past (by show w1.heap.size+1<w4.heap.size;omega) p1
 have hpl:([wordOf s.data.toList,wordOf (restOf s.data.toList),restOf (restOf s.data.toList)]:List (List UInt8)).length=3:=rfl
 rw [hpl]
 have hr1:(wordOf (restOf s.data.toList)).length<=300/\(restOf (restOf s.data.toList)).length<=300:=by
  have h1:=congrArg List.length (word_parts hm).1
  have h2:=congrArg List.length (word_parts hm2).1
  rw [List.length_append,List.length_cons] at h1 h2;omega
 have HY:=HBY hm hm2
 clear HBY HBN HBM hO hX hm hm2
 generalize hR1:wordOf (restOf s.data.toList)=r1 at*
 generalize restOf (restOf s.data.toList)=r2 at*
 go_wp2_with fail
 refine (c154' r1 _ (by omega)).mono ?_
 rintro e w6 ⟨rfl,hw6⟩
 have hb6:Below (w4.heap.size+1) (w4.alloc (.cells #[.int .i64 op,.string ⟨#[]⟩,.int .i64 0] 183)) w6:=by rw [hw6];exact Below.refl _ _
 clear hw6
 have cx6:∀ p:Addr,p.block<w4.heap.size->w6.cell? p=w4.cell? p:=fun p hp=>(hb6.cell (by omega)).trans (((Below.refl w4.heap.size w4).alloc (Nat.le_refl _) _).cell hp)
 have f6:∀ p:Addr,p.block<w4.heap.size->w6.frozen? p=w4.frozen? p:=fun p hp=>(hb6.frozen (by omega)).trans (((Below.refl w4.heap.size w4).alloc (Nat.le_refl _) _).frozen hp)
 have t1:w6.cell? ⟨w1.heap.size,1,none⟩=some (.bool true):=(cx6 _ (by show w1.heap.size<w4.heap.size;omega)).trans s1
 have t2:w6.cell? ⟨w1.heap.size,2,none⟩=some (.bool true):=(cx6 _ (by show w1.heap.size<w4.heap.size;omega)).trans s2
 have x0:w6.cell? ⟨w.heap.size,0,none⟩=some (.int .i64 0):=(cx6 _ hRlt).trans z0
 have x1:w6.cell? ⟨w.heap.size,1,none⟩=some (.string ⟨#[]⟩):=(cx6 _ hRlt).trans z1
 have x2:w6.cell? ⟨w.heap.size,2,none⟩=some (.int .i64 0):=(cx6 _ hRlt).trans z2
 have v0:w6.frozen? ⟨w.heap.size,0,none⟩=false:=(f6 _ hRlt).trans y0
 have v1:w6.frozen? ⟨w.heap.size,1,none⟩=false:=(f6 _ hRlt).trans y1
 have v2:w6.frozen? ⟨w.heap.size,2,none⟩=false:=(f6 _ hRlt).trans y2
 have i0:w6.cell? ⟨w4.heap.size,0,none⟩=some (.int .i64 op):=(hb6.cell (p:=⟨w4.heap.size,0,none⟩) (by simp)).trans (by simp [go_sem])
 have i1:w6.cell? ⟨w4.heap.size,1,none⟩=some (.string ⟨#[]⟩):=(hb6.cell (p:=⟨w4.heap.size,1,none⟩) (by simp)).trans (by simp [go_sem])
 have i2:w6.cell? ⟨w4.heap.size,2,none⟩=some (.int .i64 0):=(hb6.cell (p:=⟨w4.heap.size,2,none⟩) (by simp)).trans (by simp [go_sem])
 have j0:∀ k,w6.frozen? ⟨w4.heap.size,k,none⟩=false:=fun k=>(hb6.frozen (p:=⟨w4.heap.size,k,none⟩) (by simp)).trans (by simp [go_sem])
 have j1:=j0 1
 have j2:=j0 2
 have u1:=(cx6 ⟨w1.heap.size+1,1,none⟩ (by show w1.heap.size+1<w4.heap.size;omega)).trans p1
 have u2:=(cx6 ⟨w1.heap.size+1,2,none⟩ (by show w1.heap.size+1<w4.heap.size;omega)).trans p2
 have hB6:Below w.heap.size w w6:=(hB4.alloc hB4.size _).trans (hb6.mono (by omega))
 have hz6:w4.heap.size+1<=w6.heap.size:=by have:=hb6.size;simp at this;omega
 clear s1' s2' z0' z1' z2' y0' y1' y2' s1 s2 z0 z1 z2 y0 y1 y2 cx6 f6 hb6 j0
 have hq1:w4.heap.size≠w1.heap.size:=by omega
 have hq2:w4.heap.size≠w.heap.size:=by omega
 have k1:=pset (q:=⟨w4.heap.size,2,none⟩) (by exact hq1) t1 (.int .i64 (rn40 r1))
 have k2:=pset (q:=⟨w4.heap.size,2,none⟩) (by exact hq1) t2 (.int .i64 (rn40 r1))
 have m0:=pset (q:=⟨w4.heap.size,2,none⟩) (by exact hq2) x0 (.int .i64 (rn40 r1))
 have m1:=pset (q:=⟨w4.heap.size,2,none⟩) (by exact hq2) x1 (.int .i64 (rn40 r1))
 have m2:=pset (q:=⟨w4.heap.size,2,none⟩) (by exact hq2) x2 (.int .i64 (rn40 r1))
 have n2:=pset (q:=⟨w4.heap.size,2,none⟩) (p:=⟨w1.heap.size+1,2,none⟩) (by show w4.heap.size≠w1.heap.size+1;omega) u2 (.int .i64 (rn40 r1))
 cases hn:num40 r1
 · have HI:Hid (Is41 s.data.toList (.returned (.tuple #[.agg #[.int .i64 op,.string ⟨#[]⟩,.int .i64 (rn40 r1)],.bool false]))):=⟨⟨op,⟨#[]⟩,(rn40 r1)⟩,false,rfl,isBody_no _ _ (HBQ hn)⟩
   clear HY HBQ hn
   generalize rn40 r1=N at*
   go_wp2
   have F:=set3_at (w6.setCell ⟨w4.heap.size,2,none⟩ (.int .i64 N)) w.heap.size 0 (.int .i64 op) (.string ⟨#[]⟩) (.int .i64 N) _ _ _ m0 m1 m2
   simp only [Nat.zero_add] at F
   refine bodyPost_ret (v:=.tuple #[.agg #[.int .i64 op,.string ⟨#[]⟩,.int .i64 N],.bool false]) (by simp [results,Tryz.results140,go_sem,F]) rfl ⟨HI.out,((((hB6.setCell (by simp;omega) _).setCell (by simp) _).setCell (by simp) _).setCell (by simp) _)⟩
 have HY2:Hid (∀ t ok,Unq r2 t ok->IsBody s.data.toList ⟨op,ofL t,rn40 r1⟩ ok):=HY hn
 clear HY HBQ hn
 generalize rn40 r1=N at*
 go_wp2_with fail
 refine (c148' r2 _ (by omega)).mono ?_
 rintro e w7 ⟨⟨t,ok,rfl,hun⟩,hb7'⟩
 have hb7:Below w6.heap.size (w6.setCell ⟨w4.heap.size,2,none⟩ (.int .i64 N)) w7:=by have h:=hb7';simp at h;exact h
 have HI:Hid (Is41 s.data.toList (.returned (.tuple #[.agg #[.int .i64 op,.string (ofL t),.int .i64 N],.bool ok]))):=⟨⟨op,(ofL t),N⟩,ok,rfl,HY2.out t ok hun⟩
 clear hb7' hun HY2
 have a1:w7.cell? ⟨w.heap.size,0,none⟩=some (.int .i64 0):=(hb7.cell (by show w.heap.size<w6.heap.size;omega)).trans m0
 have a2:w7.cell? ⟨w.heap.size,1,none⟩=some (.string ⟨#[]⟩):=(hb7.cell (by show w.heap.size<w6.heap.size;omega)).trans m1
 have a3:w7.cell? ⟨w.heap.size,2,none⟩=some (.int .i64 0):=(hb7.cell (by show w.heap.size<w6.heap.size;omega)).trans m2
 have d0:w7.frozen? ⟨w.heap.size,0,none⟩=false:=(hb7.frozen (by show w.heap.size<w6.heap.size;omega)).trans (by simpa using v0)
 have d1:w7.frozen? ⟨w.heap.size,1,none⟩=false:=(hb7.frozen (by show w.heap.size<w6.heap.size;omega)).trans (by simpa using v1)
 have d2:w7.frozen? ⟨w.heap.size,2,none⟩=false:=(hb7.frozen (by show w.heap.size<w6.heap.size;omega)).trans (by simpa using v2)
 have q0:w7.cell? ⟨w4.heap.size,0,none⟩=some (.int .i64 op):=(hb7.cell (by show w4.heap.size<w6.heap.size;omega)).trans ((World.cell?_setCell_other _ _ _ _ (adr_ne (by omega))).trans i0)
 have q1:w7.cell? ⟨w4.heap.size,1,none⟩=some (.string ⟨#[]⟩):=(hb7.cell (by show w4.heap.size<w6.heap.size;omega)).trans ((World.cell?_setCell_other _ _ _ _ (adr_ne (by omega))).trans i1)
 have q2:w7.cell? ⟨w4.heap.size,2,none⟩=some (.int .i64 N):=(hb7.cell (by show w4.heap.size<w6.heap.size;omega)).trans (World.cell?_setCell_same _ _ _ i2)
 have g1:w7.frozen? ⟨w4.heap.size,1,none⟩=false:=(hb7.frozen (by show w4.heap.size<w6.heap.size;omega)).trans (by simpa using j1)
 have hB7:Below w.heap.size w w7:=(hB6.setCell (p:=⟨w4.heap.size,2,none⟩) (by show w.heap.size<=w4.heap.size;omega) _).trans (hb7.mono (by omega))
 have b0':=pset (q:=⟨w4.heap.size,1,none⟩) (by exact hq2) a1 (.string (ofL t))
 have b1':=pset (q:=⟨w4.heap.size,1,none⟩) (by exact hq2) a2 (.string (ofL t))
 have b2':=pset (q:=⟨w4.heap.size,1,none⟩) (by exact hq2) a3 (.string (ofL t))
 clear m0 m1 m2 k1 k2 i0 i1 i2 x0 x1 x2 v0 v1 v2 t1 t2 hb7
 go_wp2
 have F:=set3_at (w7.setCell ⟨w4.heap.size,1,none⟩ (.string (ofL t))) w.heap.size 0 (.int .i64 op) (.string (ofL t)) (.int .i64 N) _ _ _ b0' b1' b2'
 simp only [Nat.zero_add] at F
 refine bodyPost_ret (v:=.tuple #[.agg #[.int .i64 op,.string (ofL t),.int .i64 N],.bool ok]) (by simp [results,Tryz.results140,go_sem,F]) rfl ⟨HI.out,((((hB7.setCell (by simp;omega) _).setCell (by simp) _).setCell (by simp) _).setCell (by simp) _)⟩
