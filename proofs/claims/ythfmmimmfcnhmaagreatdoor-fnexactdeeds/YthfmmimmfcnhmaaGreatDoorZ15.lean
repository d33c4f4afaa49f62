import Derived.Test.YthfmmimmfcnhmaaGreatDoorRA
import Derived.Test.YthfmmimmfcnhmaaGreatDoorZ14
import Derived.Test.YthfmmimmfcnhmaaGreatDoorRF
namespace Go.Proofs.YthfmmimmfcnhmaaGreatDoor
open Go.RowKit
def body (x:I3):List UInt8:=word x.op++toL x++txL x
theorem line_body (x:I3):lineL x=body x++[10]:=rfl
theorem words_no32:∀ i:Fin 12,(32:UInt8)∉word ((i.val:Nat):Int)/\(10:UInt8)∉word ((i.val:Nat):Int):=by decide
theorem word_no32 (op:Int):(32:UInt8)∉word op/\(10:UInt8)∉word op:=by
 by_cases h:1<=op/\op<=11
 · obtain ⟨n,rfl⟩:=Int.eq_ofNat_of_zero_le (show 0<=op by omega)
   exact words_no32 ⟨n,by omega⟩
 rw [word_out op h];simp
theorem words_inj:∀ i j:Fin 12,1<=i.val->1<=j.val->word ((i.val:Nat):Int)=word ((j.val:Nat):Int)->i=j:=by decide
theorem word_inj {a b:Int} (ha:1<=a/\a<=11) (hb:1<=b/\b<=11) (h:word a=word b):a=b:=by
 obtain ⟨n,rfl⟩:=Int.eq_ofNat_of_zero_le (show 0<=a by omega)
 obtain ⟨m,rfl⟩:=Int.eq_ofNat_of_zero_le (show 0<=b by omega)
 have:=words_inj ⟨n,by omega⟩ ⟨m,by omega⟩ (by show 1<=n;omega) (by show 1<=m;omega) h
 have:=Fin.mk.inj this
 rw [this]
theorem dec_eq (n:Nat):dec (n:Int)=Lib.decDigits n:=by
 induction n using Nat.strongRecOn with
 | _ n ih=>
  by_cases h:n<10
  · rw [dec_lt _ (by omega),dec_small n h,show (48+(n:Int)).toNat=48+n by omega]
  rw [dec_ge _ (by omega),dec_two n h,show (n:Int) / 10=((n / 10:Nat):Int) by omega,ih (n / 10) (by omega),show (48+(n:Int) % 10).toNat=48+n % 10 by omega]
theorem digs (n:Nat) (h:n<10):isDig (UInt8.ofNat (48+n))=true/\((UInt8.ofNat (48+n)).toNat:Int) - 48=n:=by
 have e:(UInt8.ofNat (48+n)).toNat=48+n:=by simp;omega
 rw [dig_iff,e];omega
theorem decD_ok (n:Nat):(Lib.decDigits n).all isDig=true/\val (Lib.decDigits n)=n:=by
 induction n using Nat.strongRecOn with
 | _ n ih=>
  by_cases h:n<10
  · rw [dec_small n h]
    obtain ⟨h1,h2⟩:=digs n h
    refine ⟨by rw [List.all_cons,h1];rfl,?_⟩
    have:=val_snoc [] (UInt8.ofNat (48+n))
    rw [List.nil_append] at this
    rw [this,h2]
    simp [val]
  obtain ⟨h1,h2⟩:=digs (n % 10) (by omega)
  obtain ⟨i1,i2⟩:=ih (n / 10) (by omega)
  rw [dec_two n h,List.all_append,i1,val_snoc,i2,h2]
  refine ⟨by rw [List.all_cons,h1];rfl,by omega⟩
theorem decD_no32 (n:Nat):(32:UInt8)∉Lib.decDigits n/\(10:UInt8)∉Lib.decDigits n:=by
 have:=(decD_ok n).1
 rw [List.all_eq_true] at this
 constructor
 · intro h;have:=this _ h;revert this;decide
 intro h;have:=this _ h;revert this;decide
theorem num40_dec (n:Nat) (h:n<=40):num40 (Lib.decDigits n)=true:=by
 obtain ⟨h1,h2⟩:=decD_ok n
 refine n40_yes ?_ h1 (by rw [h2];omega)
 have:=(dec_lean (n+1) (n:Int) (by omega) (by omega)).1
 rwa [dec_eq] at this
theorem num40_of {l:List UInt8} (h:num40 l=true):0<=val l/\val l<=40/\l=Lib.decDigits (val l).toNat:=by
 simp only [num40,Bool.and_eq_true,decide_eq_true_eq] at h
 obtain ⟨⟨h1,h2⟩,h3⟩:=h
 have h0:=val_nonneg l h2
 refine ⟨h0,h3,?_⟩
 have h4:=(dec_val l h2 h1).1
 have e:val l=((val l).toNat:Int):=by omega
 rw [<- dec_eq,<- e,h4]
theorem n29_dec0 (n:Nat) (h:n<=40):n29 (Lib.decDigits n)=n:=by
 have h40:=num40_dec n h
 obtain ⟨h1,h2⟩:=decD_ok n
 have hl:=decLen n (by omega)
 have hne:Lib.decDigits n≠[]:=by rw [<- dec_eq];exact dec_ne _
 rw [n29_yes ⟨List.length_pos_iff.2 hne,by omega⟩ h1 (by rw [h2,dec_eq]),h2]
def IsBody (l:List UInt8) (x:I3) (ok:Bool):Prop:=(ok=true->okI x=true/\l=body x)/\(ok=false->∀ y,okI y=true->l≠body y)
theorem body_word {y:I3} (_hy:okI y=true):wordOf (body y)=word y.op:=by
 have hw:=(word_no32 y.op).1
 unfold body
 cases hO:usesTo y.op <;> cases hX:usesTx y.op
 · rw [toL,txL,hO,hX];simp;exact (word_none hw).1
 · rw [toL,txL,hO,hX];simp;exact (word_split hw).1
 · rw [toL,txL,hO,hX];simp;exact (word_split hw).1
 rw [toL,txL,hO,hX];simp;exact (word_split hw).1
theorem body_op {l:List UInt8} {y:I3} {op:Int} (hy:okI y=true) (h:l=body y) (ho:1<=op/\op<=11) (hw:word op=wordOf l):y.op=op:=by
 rw [h,body_word hy] at hw
 exact (word_inj ho (okI_bad hy).1 hw).symm
theorem noBody_op {l:List UInt8} (h:∀ op:Nat,1<=op->op<=11->word op≠wordOf l) (y:I3) (hy:okI y=true):l≠body y:=by
 intro e
 obtain ⟨h1,_⟩:=okI_bad hy
 obtain ⟨n,hn⟩:=Int.eq_ofNat_of_zero_le (show 0<=y.op by omega)
 apply h n (by omega) (by omega)
 rw [e,body_word hy,hn]
theorem tx0:(⟨#[]⟩:ByteArray).toList.isEmpty=true:=by rw [ByteArray.toList_eq];rfl
theorem isBody_no (l:List UInt8) (x:I3) (h:∀ y,okI y=true->l≠body y):IsBody l x false:=⟨(fun h=>by cases h),fun _=>h⟩
section
variable {l:List UInt8} {op:Nat} (h1:1<=op) (h2:op<=11) (hw:word op=wordOf l)
include h1 h2 hw
theorem isBody_00 (hO:usesTo op=false) (hX:usesTx op=false):(l=wordOf l->IsBody l ⟨op,⟨#[]⟩,0⟩ true)/\(l≠wordOf l->∀ y,okI y=true->l≠body y):=by
 constructor
 · intro e
   refine ⟨fun _=>⟨okI_mk ⟨by show (1:Int)<=op;omega,by show (op:Int)<=11;omega⟩ (.inr rfl) (.inr tx0) (Int.le_refl _) (by show (0:Int)<=40;omega) (by show ((0:Nat):Int)<=300;omega),?_⟩,fun h=>by cases h⟩
   unfold body
   rw [toL,txL]
   simp only [hO,hX,Bool.false_eq_true,if_false,List.append_nil]
   rw [hw];exact e
 intro hne y hy e
 have ho:=body_op hy e ⟨by omega,by omega⟩ hw
 apply hne
 rw [<- hw,<- ho]
 rw [e]
 unfold body
 rw [toL,txL,ho,hO,hX]
 simp
theorem no_blank (hu:usesTo op=true\/usesTx op=true) (hn:(32:UInt8)∉l) (y:I3) (hy:okI y=true):l≠body y:=by
 intro e
 have ho:=body_op hy e ⟨by omega,by omega⟩ hw
 apply hn
 rw [e]
 unfold body
 rw [toL,txL,ho]
 rcases hu with hu | hu
 · rw [hu];simp
 rw [hu];cases usesTo (op:Int) <;> simp
theorem isBody_10 (hO:usesTo op=true) (hX:usesTx op=false) (hm:(32:UInt8)∈l):IsBody l ⟨op,⟨#[]⟩,rn40 (restOf l)⟩ (num40 (restOf l)):=by
 obtain ⟨hp,_⟩:=word_parts hm
 constructor
 · intro hn
   obtain ⟨n0,n40,nd⟩:=num40_of hn
   rw [rn_yes hn]
   refine ⟨okI_mk ⟨by show (1:Int)<=op;omega,by show (op:Int)<=11;omega⟩ (.inl hO) (.inr tx0) n0 n40 (by show ((0:Nat):Int)<=300;omega),?_⟩
   unfold body
   rw [toL,txL]
   simp only [hO,hX,if_true,Bool.false_eq_true,if_false,List.append_nil]
   rw [<- nd,hw];exact hp
 intro hn y hy e
 have ho:=body_op hy e ⟨by omega,by omega⟩ hw
 obtain ⟨_,_,_,y0,y40,_⟩:=okI_bad hy
 have:restOf l=Lib.decDigits y.to.toNat:=by
  rw [e]
  unfold body
  rw [toL,txL,ho,hO,hX]
  simp only [if_true,Bool.false_eq_true,if_false,List.append_nil]
  exact (word_split (word_no32 _).1).2
 rw [this,num40_dec _ (by omega)] at hn
 cases hn
theorem isBody_01 (hO:usesTo op=false) (hX:usesTx op=true) (hm:(32:UInt8)∈l) (h300:l.length<=300) {t:List UInt8} {ok:Bool} (hu:(ok=true->restOf l=quoteL t)/\(ok=false->∀ q,restOf l≠quoteL q)):IsBody l ⟨op,ofL t,0⟩ ok:=by
 obtain ⟨hp,_⟩:=word_parts hm
 constructor
 · intro hk
   have hq:=hu.1 hk
   have hlen:t.length<=300:=by
    have:=quote_ge t
    have h3:=congrArg List.length hp
    rw [hq] at h3
    simp only [List.length_append,List.length_cons] at h3
    omega
   refine ⟨okI_mk ⟨by show (1:Int)<=op;omega,by show (op:Int)<=11;omega⟩ (.inr rfl) (.inl hX) (Int.le_refl _) (by show (0:Int)<=40;omega) (by show ((ofL t).size:Int)<=300;rw [ofL_size];omega),?_⟩
   unfold body
   rw [toL,txL]
   simp only [hO,hX,if_true,Bool.false_eq_true,if_false,List.append_nil]
   have:(ofL t).data.toList=t:=rfl
   rw [this,<- hq,hw];exact hp
 intro hk y hy e
 have ho:=body_op hy e ⟨by omega,by omega⟩ hw
 apply hu.2 hk y.tx.data.toList
 rw [e]
 unfold body
 rw [toL,txL,ho,hO,hX]
 simp only [if_true,Bool.false_eq_true,if_false,List.append_nil]
 exact (word_split (word_no32 _).1).2
theorem no_blank2 (hO:usesTo op=true) (hX:usesTx op=true) (hn:(32:UInt8)∉restOf l) (y:I3) (hy:okI y=true):l≠body y:=by
 intro e
 have ho:=body_op hy e ⟨by omega,by omega⟩ hw
 apply hn
 rw [e]
 unfold body
 rw [toL,txL,ho,hO,hX]
 simp only [if_true,List.append_assoc,List.cons_append]
 rw [(word_split (word_no32 _).1).2]
 simp
theorem isBody_11 (hO:usesTo op=true) (hX:usesTx op=true) (hm:(32:UInt8)∈l) (hm2:(32:UInt8)∈restOf l) (h300:l.length<=300) (hn:num40 (wordOf (restOf l))=true) {t:List UInt8} {ok:Bool} (hu:(ok=true->restOf (restOf l)=quoteL t)/\(ok=false->∀ q,restOf (restOf l)≠quoteL q)):IsBody l ⟨op,ofL t,rn40 (wordOf (restOf l))⟩ ok:=by
 obtain ⟨hp,_⟩:=word_parts hm
 obtain ⟨hp2,_⟩:=word_parts hm2
 obtain ⟨n0,n40,nd⟩:=num40_of hn
 rw [rn_yes hn]
 constructor
 · intro hk
   have hq:=hu.1 hk
   have hlen:t.length<=300:=by
    have:=quote_ge t
    have h3:=congrArg List.length hp
    have h4:=congrArg List.length hp2
    rw [hq] at h4
    simp only [List.length_append,List.length_cons] at h3 h4
    omega
   refine ⟨okI_mk ⟨by show (1:Int)<=op;omega,by show (op:Int)<=11;omega⟩ (.inl hO) (.inl hX) n0 n40 (by show ((ofL t).size:Int)<=300;rw [ofL_size];omega),?_⟩
   unfold body
   rw [toL,txL]
   simp only [hO,hX,if_true,List.append_assoc,List.cons_append]
   have:(ofL t).data.toList=t:=rfl
   rw [this,<- hq,<- nd,hw,<- hp2];exact hp
 intro hk y hy e
 have ho:=body_op hy e ⟨by omega,by omega⟩ hw
 apply hu.2 hk y.tx.data.toList
 rw [e]
 unfold body
 rw [toL,txL,ho,hO,hX]
 simp only [if_true,List.append_assoc,List.cons_append]
 rw [(word_split (word_no32 _).1).2,(word_split (decD_no32 _).1).2]
theorem noBody_11 (hO:usesTo op=true) (hX:usesTx op=true) (hn:num40 (wordOf (restOf l))=false) (y:I3) (hy:okI y=true):l≠body y:=by
 intro e
 have ho:=body_op hy e ⟨by omega,by omega⟩ hw
 obtain ⟨_,_,_,y0,y40,_⟩:=okI_bad hy
 have:wordOf (restOf l)=Lib.decDigits y.to.toNat:=by
  rw [e]
  unfold body
  rw [toL,txL,ho,hO,hX]
  simp only [if_true,List.append_assoc,List.cons_append]
  rw [(word_split (word_no32 _).1).2,(word_split (decD_no32 _).1).1]
 rw [this,num40_dec _ (by omega)] at hn
 cases hn
end
end Go.Proofs.YthfmmimmfcnhmaaGreatDoor
namespace Go.Proofs.YthfmmimmfcnhmaaGreatDoor
open Go.RowKit
variable {R a l q r:List UInt8} {x y:I3} {is js:List I3}
theorem body_no10 (x:I3):(10:UInt8)∉body x:=by
 unfold body
 simp only [List.mem_append,not_or]
 refine ⟨⟨(word_no32 _).2,?_⟩,?_⟩
 · unfold toL;split
   · simp only [List.mem_cons,not_or];exact ⟨by decide,(decD_no32 _).2⟩
   simp
 unfold txL;split
 · simp only [List.mem_cons,not_or];exact ⟨by decide,quote_no10 _⟩
 simp
theorem decD_inj {a b:Nat} (h:Lib.decDigits a=Lib.decDigits b):a=b:=by
 have h1:=(decD_ok a).2
 have h2:=(decD_ok b).2
 rw [h] at h1
 omega
theorem tx_empty {a b:ByteArray} (ha:a.toList.isEmpty=true) (hb:b.toList.isEmpty=true):a=b:=by
 apply tx_inj
 rw [ByteArray.toList_eq] at ha hb
 rw [List.isEmpty_iff] at ha hb
 rw [ha,hb]
theorem body_inj (hx:okI x=true) (hy:okI y=true) (h:body x=body y):x=y:=by
 obtain ⟨x1,x2,x3,x4,x5,x6⟩:=okI_bad hx
 obtain ⟨y1,y2,y3,y4,y5,y6⟩:=okI_bad hy
 have ho:x.op=y.op:=word_inj x1 y1 (by rw [<- body_word hx,<- body_word hy,h])
 obtain ⟨op,tx,to⟩:=x
 obtain ⟨op',tx',to'⟩:=y
 simp only at ho
 subst ho
 simp only at x2 x3 x4 x5 x6 y2 y3 y4 y5 y6
 unfold body toL txL at h
 simp only [List.append_assoc,List.append_cancel_left_eq] at h
 cases hO:usesTo op <;> cases hX:usesTx op
 · simp only [hO,Bool.false_eq_true,false_or] at x2 y2
   simp only [hX,Bool.false_eq_true,false_or] at x3 y3
   rw [x2,y2,tx_empty x3 y3]
 · simp only [hO,Bool.false_eq_true,false_or] at x2 y2
   simp only [hO,hX,Bool.false_eq_true,if_false,if_true,List.nil_append,List.cons.injEq,true_and] at h
   rw [x2,y2,tx_inj (quoteL_inj h)]
 · simp only [hX,Bool.false_eq_true,false_or] at x3 y3
   simp only [hO,hX,Bool.false_eq_true,if_false,if_true,List.append_nil,List.cons.injEq,true_and] at h
   have:=decD_inj h
   rw [tx_empty x3 y3,show to=to' by omega]
 simp only [hO,hX,if_true,List.cons_append,List.cons.injEq,true_and] at h
 have h1:=(word_split (r:=quoteL tx.data.toList) (decD_no32 to.toNat).1)
 have h2:=(word_split (r:=quoteL tx'.data.toList) (decD_no32 to'.toNat).1)
 rw [h] at h1
 have e1:=decD_inj (h1.1.symm.trans h2.1)
 have e2:=quoteL_inj (h1.2.symm.trans h2.2)
 rw [tx_inj e2,show to=to' by omega]
theorem line_pre (hx:okI x=true) (hy:okI y=true) (h:lineL x++r=lineL y++q):x=y/\r=q:=by
 rw [line_body,line_body,List.append_assoc,List.append_assoc] at h
 obtain ⟨h1,h2⟩:=split10 (body_no10 x) (body_no10 y) h
 exact ⟨body_inj hx hy h1,h2⟩
theorem line_ne (x:I3):lineL x≠[]:=by rw [line_body];simp
theorem lines_pre (hi:is.all okI=true) (hj:js.all okI=true) (h:is.flatMap lineL++R=js.flatMap lineL):∃ r,R=r.flatMap lineL/\js=is++r:=by
 induction is generalizing js with
 | nil=>exact ⟨js,by simpa using h,rfl⟩
 | cons x is ih=>
  simp only [List.all_cons,Bool.and_eq_true] at hi
  cases js with
  | nil=>
   have:=line_ne x
   simp at h
   exact absurd h.1 this
  | cons y js=>
   simp only [List.all_cons,Bool.and_eq_true] at hj
   simp only [List.flatMap_cons,List.append_assoc] at h
   obtain ⟨rfl,h2⟩:=line_pre hi.1 hj.1 h
   obtain ⟨r,hr,hl⟩:=ih hi.2 hj.2 h2
   exact ⟨r,hr,by rw [hl];rfl⟩
theorem lines_inj (hi:is.all okI=true) (hj:js.all okI=true) (h:is.flatMap lineL=js.flatMap lineL):is=js:=by
 obtain ⟨r,hr,hl⟩:=lines_pre (R:=[]) hi hj (by simpa using h)
 cases r with
 | nil=>simpa using hl.symm
 | cons y r=>
  have:=line_ne y
  simp at hr
  exact absurd hr.1 this
theorem lines_ge (is:List I3):is.length<=(is.flatMap lineL).length:=by
 induction is with
 | nil=>simp
 | cons x r ih=>
  have:1<=(lineL x).length:=List.length_pos_iff.2 (line_ne x)
  simp only [List.flatMap_cons,List.length_append,List.length_cons];omega
def IsRead (l:List UInt8) (is:List I3) (ok:Bool):Prop:=(ok=true->okT is=true/\is.flatMap lineL=l/\l.length<=300)/\(ok=false->is=[]/\∀ js,okT js=true->js.flatMap lineL=l->300<l.length)
theorem isRead_one {a b:Bool} (h:IsRead l is a) (k:IsRead l js b):is=js/\a=b:=by
 cases a <;> cases b
 · exact ⟨(h.2 rfl).1.trans (k.2 rfl).1.symm,rfl⟩
 · obtain ⟨k1,k2,k3⟩:=k.1 rfl
   have:=(h.2 rfl).2 js k1 k2;omega
 · obtain ⟨k1,k2,k3⟩:=h.1 rfl
   have:=(k.2 rfl).2 is k1 k2;omega
 obtain ⟨k1,k2,k3⟩:=k.1 rfl
 obtain ⟨h1,h2,h3⟩:=h.1 rfl
 exact ⟨lines_inj (okT_facts h1).2 (okT_facts k1).2 (h2.trans k2.symm),rfl⟩
def Way (l:List UInt8) (is:List I3) (r:List UInt8):Prop:=l=is.flatMap lineL++r/\is.all okI=true
theorem way_start (l:List UInt8):Way l [] l:=⟨rfl,rfl⟩
theorem way_step (h:Way l is (a++10::r)) (hx:okI x=true/\a=body x):Way l (is++[x]) r:=by
 refine ⟨?_,by rw [List.all_append,h.2];simp [hx.1]⟩
 rw [h.1,List.flatMap_append,hx.2]
 simp [line_body]
theorem way_stuck (h:Way l is r) (hr:r≠[]) (hn:∀ y q,okI y=true->r≠body y++10::q):IsRead l [] false:=by
 refine ⟨(fun h=>by cases h),fun _=>⟨rfl,fun js hj e=>?_⟩⟩
 exfalso
 obtain ⟨q,hq,hl⟩:=lines_pre h.2 (okT_facts hj).2 (h.1.symm.trans e.symm)
 cases q with
 | nil=>exact hr hq
 | cons y q=>
  have hy:okI y=true:=by
   have:=(okT_facts hj).2
   rw [hl,List.all_append,List.all_cons] at this
   simp only [Bool.and_eq_true] at this
   exact this.2.1
  apply hn y (q.flatMap lineL) hy
  rw [hq,List.flatMap_cons,line_body,List.append_assoc]
  rfl
theorem way_end (h:Way l is []) (h300:l.length<=300):(okT is=true->IsRead l is true)/\(okT is=false->IsRead l [] false):=by
 have e:l=is.flatMap lineL:=by simpa using h.1
 refine ⟨fun hk=>⟨fun _=>⟨hk,e.symm,h300⟩,(fun h=>by cases h)⟩,fun hk=>⟨(fun h=>by cases h),fun _=>⟨rfl,fun js hj ej=>?_⟩⟩⟩
 have:=lines_inj (okT_facts hj).2 h.2 (ej.trans e)
 rw [this,hk] at hj
 cases hj
theorem read_long (h:300<l.length):IsRead l [] false:=⟨(fun h=>by cases h),fun _=>⟨rfl,fun _ _ _=>h⟩⟩
theorem way_len (h:Way l is r):is.length+r.length<=l.length/\∀ i,(is.getD i i3z).tx.size<=300:=by
 have h1:=lines_ge is
 have h2:=congrArg List.length h.1
 rw [List.length_append] at h2
 refine ⟨by omega,getD_small3 fun i hi=>?_⟩
 have:=(okI_bad (get_ok h.2 hi)).2.2.2.2.2
 omega
def insCells (is:List I3):List Value:=is.flatMap fun x=>[.int .i64 x.op,.string x.tx,.int .i64 x.to]
theorem insCells_snoc (is:List I3) (x:I3):insCells (is++[x])=insCells is++[.int .i64 x.op,.string x.tx,.int .i64 x.to]:=by simp [insCells]
theorem insCells_get (is:List I3) (i:Nat) (h:i<is.length):(insCells is)[i*3]?=some (.int .i64 (is.getD i i3z).op)/\(insCells is)[i*3+1]?=some (.string (is.getD i i3z).tx)/\(insCells is)[i*3+2]?=some (.int .i64 (is.getD i i3z).to):=by
 induction is generalizing i with
 | nil=>simp at h
 | cons x r ih=>
  cases i with
  | zero=>exact ⟨rfl,rfl,rfl⟩
  | succ i=>
   have:=ih i (by simpa using h)
   have e:∀ j,(insCells (x::r))[(i+1)*3+j]?=(insCells r)[i*3+j]?:=fun j=>by
    show ([Value.int .i64 x.op,.string x.tx,.int .i64 x.to]++insCells r)[(i+1)*3+j]?=_
    rw [List.getElem?_append_right (by simp;omega)]
    congr 1
    simp;omega
   have e0:=e 0
   simp only [Nat.add_zero] at e0
   rw [e0,e 1,e 2]
   exact this
theorem own3_form {w:World} {base:Nat} {v:Value} (h:w.ownsRow base 183 3 v is.length (insCells is)):∃ a cap,v=.slice a is.length cap/\InsAt w a is:=by
 have h':=h
 rcases h.2 with ⟨hv,h0⟩ | ⟨g,cap,cur,hv,hg,hh,_⟩
 · exact ⟨none,0,by rw [hv,h0],.inl (List.length_eq_zero_iff.1 h0)⟩
 refine ⟨some ⟨g,0,none⟩,cap,hv,?_⟩
 subst hv
 refine .inr ⟨g,0,rfl,blk_lt hh,fun i hi=>?_⟩
 obtain ⟨e0,e1,e2⟩:=insCells_get is i hi
 rw [Nat.zero_add,h'.cellAt _ (by omega),h'.cellAt _ (by omega),h'.cellAt _ (by omega)]
 exact ⟨e0,e1,e2⟩
end Go.Proofs.YthfmmimmfcnhmaaGreatDoor
