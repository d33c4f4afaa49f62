import Derived.Test.YtlckdgjfniglfaaGreatDooreQG
import Derived.Test.YtlckdgjfniglfaaGreatDooreY9
set_option maxRecDepth 100000
set_option linter.unusedVariables false
set_option maxHeartbeats 8000000
namespace Go.Proofs.YtlckdgjfniglfaaGreatDoor
open Proofs.Tryz
open Go.RowKit
def numM (M:Int) (l:List UInt8):Bool:=lean1 l&&l.all isDig&&decide (val l<=M)
def rnM (M:Int) (l:List UInt8):Int:=if numM M l=true then val l else 0
theorem nM_lean {M:Int} {l:List UInt8} (h:lean1 l=false):numM M l=false:=by simp [numM,h]
theorem nM_dig {M:Int} {l:List UInt8} (h:l.all isDig=false):numM M l=false:=by simp only [numM,h,Bool.and_false,Bool.false_and]
theorem nM_big {M:Int} {l:List UInt8} (k:Nat) (h:M<val (l.take k)):numM M l=false:=by
 by_cases ha:l.all isDig=true
 · have:=val_take_le l ha k
   have hd:decide (val l<=M)=false:=by simp only [decide_eq_false_iff_not];omega
   simp only [numM,hd,Bool.and_false]
 · exact nM_dig (by simpa using ha)
theorem nM_yes {M:Int} {l:List UInt8} (h1:lean1 l=true) (h2:l.all isDig=true) (h3:val l<=M):numM M l=true:=by
 have hd:decide (val l<=M)=true:=by simpa using h3
 simp only [numM,h1,h2,hd,Bool.and_self]
theorem rnM_no {M:Int} {l:List UInt8} (h:numM M l=false):rnM M l=0:=by simp [rnM,h]
theorem rnM_yes {M:Int} {l:List UInt8} (h:numM M l=true):rnM M l=val l:=by simp [rnM,h]
theorem c76m (M:Int) (s:ByteArray) (w:World) (hs:s.size<=1048700) (hM0:0<=M) (hM1:M<=100000):
 Calls prog 76 #[.string s,.int .i64 M] w fun e w'=>e=.returned (.tuple #[.int .i64 (rnM M s.data.toList),.bool (numM M s.data.toList)])/\w'=w:=by
 by_cases h0:s.size=0
 · have e0:s.toList=[]:=by
    rw [ByteArray.toList_eq];exact List.length_eq_zero_iff.1 (by simpa using h0)
   have hN:Hid (numM M s.data.toList=false):=nM_lean (by rw [<- ByteArray.toList_eq,e0];rfl);go_enter func76,ntmps76;go_wp2;go_ret2;exact ⟨ret_pair (rnM_no hN.out).symm hN.out.symm,rfl⟩
 · have e0:s.toList.isEmpty=false:=by rw [ByteArray.toList_eq];exact str_isEmpty s om_
   have e1:¬ s.toList=[]:=fun h=>by rw [h] at e0;cases e0
   have hp:0<s.size:=om_;have hh:=head_zero s hp;by_cases hl:lean1 s.data.toList=true
   · have HL:Hid (lean1 s.data.toList=true):=hl
     have hc:(s[0].toNat=48/\s.toList=[48])\/((s[0].toNat:Int)==48)=false:=by
      by_cases h48:s[0].toNat=48
      · refine .inl ⟨h48,?_⟩
        have h1:s[0]=48:=UInt8.toNat_inj.1 h48;rw [ByteArray.toList_eq];exact ((lean1_iff _).1 hl).2 (by rw [hh];exact h1)
      · exact .inr so_
     clear hl hh;rcases hc with ⟨h48,hz⟩ | h48
     all_goals
      go_enter func76,ntmps76;go_wp2;go_loop [6,21] (fun n i=>∃ k:Nat,k<=s.size/\i=.int .i64 k/\n=.int .i64 (val (s.data.toList.take k))/\0<=val (s.data.toList.take k)/\val (s.data.toList.take k)<=M/\Hid ((s.data.toList.take k).all isDig=true)) (fun _ i=>s.size - (intOf i).toNat)
      case atStart=>exact ⟨0,Nat.zero_le _,rfl,rfl,by simp [val],by simpa [val] using hM0,rfl⟩
      case round=>
       obtain ⟨k,hk,rfl,rfl,hv0,hv1,ha⟩:=hrel;by_cases hlt:k<s.size
       · by_cases hg:isDig s[k]=true
         · have hg':=(dig_iff _).1 hg
           have hw:=byte_sub _ hg';have ha':Hid ((s.data.toList.take (k+1)).all isDig=true):=all_take_snoc _ s k hlt ha.out hg;have hvs:Hid (val (s.data.toList.take (k+1))=val (s.data.toList.take k)*10+((s[k].toNat:Int) - 48)):=by
            rw [take_snoc s k hlt];exact val_snoc _ _
           clear hg;by_cases hb:M<val (s.data.toList.take k)*10+((s[k].toNat:Int) - 48)
           · have hN:Hid (numM M s.data.toList=false):=nM_big (k+1) (by rw [hvs.out];exact hb)
             go_wp2;go_ret2;exact ⟨ret_pair (rnM_no hN.out).symm hN.out.symm,rfl⟩
           · go_wp2
             go_round
             case rel=>exact ⟨k+1,om_,by go_num,by rw [hvs.out],by rw [hvs.out];omega,by rw [hvs.out];omega,ha'⟩
             case measure=>simp [intOf];omega
         · have hN:Hid (numM M s.data.toList=false):=nM_dig (all_false_at _ s k hlt (by simpa using hg))
           have hg':(s[k].toNat:Int)<48\/57<(s[k].toNat:Int):=by
            rcases Int.lt_or_le (s[k].toNat:Int) 48 with h | h
            · exact .inl h
            · rcases Int.lt_or_le 57 (s[k].toNat:Int) with h' | h'
              · exact .inr h'
              · exact absurd ((dig_iff _).2 ⟨h,h'⟩) hg
           clear hg;rcases hg' with hg | hg
           all_goals
            go_wp2
            all_goals go_ret2
            all_goals exact ⟨ret_pair (rnM_no hN.out).symm hN.out.symm,rfl⟩
       · have hall:=all_take_size _ s k om_ ha.out
         have hE:s.data.toList.take k=s.data.toList:=List.take_of_length_le so_;have hN:Hid (numM M s.data.toList=true):=nM_yes HL.out hall (by rw [<- hE];exact hv1);have HE:Hid (s.data.toList.take k=s.data.toList):=hE;clear hall hE;go_wp2;go_ret2;exact ⟨ret_pair (by rw [rnM_yes hN.out,HE.out]) hN.out.symm,rfl⟩
   · have hN:Hid (numM M s.data.toList=false):=nM_lean (by simpa using hl)
     have h48:s[0].toNat=48/\¬ s.toList=[48]:=by
      rw [ByteArray.toList_eq] at e1 ⊢;rw [lean1_iff,hh] at hl;by_cases h1:s[0]=48
      · refine ⟨by rw [h1];rfl,fun hz=>hl ⟨e1,fun _=>hz⟩⟩
      · exact absurd ⟨e1,fun h=>absurd h h1⟩ hl
     obtain ⟨h48,hz⟩:=h48;have hz':(!s.toList==[48])=true:=by simpa using hz
     clear hh hl;go_enter func76,ntmps76;go_wp2;go_ret2;exact ⟨ret_pair (rnM_no hN.out).symm hN.out.symm,rfl⟩
theorem dec_small (n:Int) (h0:0<=n) (h1:n<=1000):(dec n).length<=4:=by
 by_cases a:n<10
 · rw [dec_lt n a];simp
 · rw [dec_ge n om_,List.length_append]
   by_cases b:n / 10<10
   · rw [dec_lt _ b];simp
   · rw [dec_ge (n / 10) om_,List.length_append]
     by_cases c:n / 10 / 10<10
     · rw [dec_lt _ c];simp
     · rw [dec_ge (n / 10 / 10) om_,List.length_append]
       have d:n / 10 / 10 / 10<10:=om_;rw [dec_lt _ d];simp
theorem dec_one (n:Int) (h1:n<10):(dec n).length=1:=by rw [dec_lt n h1];rfl
theorem name_len {l:List UInt8} (h:nameOk l=true):1<=l.length/\l.length<=20:=by
 unfold nameOk at h;rw [Bool.and_eq_true,decide_eq_true_eq] at h;exact h.1
theorem vr_len {c:Int} {l:List UInt8} (h:vr c l=true):l.length<=300:=by
 rcases Nat.lt_or_ge 300 l.length with h1 | h1
 · rw [vr_long h1] at h;cases h
 · exact h1
theorem quote_len2 (l:List UInt8):(quoteL l).length<=3*l.length+2:=by
 have:=flat_len l;unfold quoteL;simp only [List.length_cons,List.length_append,List.length_nil];omega
theorem lk_text {x:L4} (h:LkOk x):x.nm.data.toList.length<=20/\x.tx.data.toList.length<=300:=by
 have hn:=name_len h.1;refine ⟨hn.2,?_⟩;rcases h.2 with ⟨_,⟨_,h⟩ | ⟨_,h⟩⟩ | ⟨_,h⟩
 · rw [h];exact Nat.zero_le _
 · rw [h];omega
 · exact vr_len h
theorem res_len {c:Int} {t:ByteArray} (h0:0<=c) (h1:c<=7) (ht:t.data.toList.length<=300):(resL c t).length<=904:=by
 have a:=dec_one c om_;have b:=quote_len2 t.data.toList;unfold resL;simp only [List.length_append,List.length_cons,List.length_nil];omega
theorem look_len {x:L4} (h:LkOk x):(lookL x).length<=930:=by
 obtain ⟨a,b⟩:=lk_text h;have hc:=lk_code h;have r:=res_len hc.1 hc.2 b;have w4:(wordA x.has).data.toList.length=4:=by cases x.has <;> rfl
 unfold lookL;simp only [List.length_append,List.length_cons,List.length_nil];omega
theorem looks_len' {ls:List L4} (h:LksOk ls):∀ k,k<=ls.length->(looksL (ls.take k)).length<=k*930:=by
 intro k
 induction k with
 | zero=>intro _;simp [looksL]
 | succ k ih=>
  intro hk;rw [looks_snoc ls k om_,List.length_append];have:=look_len (h.2 k om_);have:=ih om_;omega
theorem looks_small {ls:List L4} (h:LksOk ls):(looksL ls).length<=13950:=by
 have:=looks_len' h ls.length lr_;rw [List.take_of_length_le lr_] at this;have:=h.1;omega
theorem okM_len {x:M3} (h:okM x=true):x.nm.data.toList.length<=20/\x.tl.data.toList.length<=20/\x.ar.data.toList.length<=300:=by
 unfold okM at h;simp only [Bool.and_eq_true,decide_eq_true_eq] at h;have e:x.ar.data.toList.length=x.ar.size:=sm_;exact ⟨(name_len h.1.1).2,(name_len h.1.2).2,om_⟩
theorem dec_back (f:Nat) (n:Int) (h0:0<=n) (hf:n.toNat<f):(dec n).all isDig=true/\val (dec n)=n:=by
 induction f generalizing n with
 | zero=>omega
 | succ f ih=>
  by_cases h:n<10
  · rw [dec_lt n h]
    obtain rfl | rfl | rfl | rfl | rfl | rfl | rfl | rfl | rfl | rfl:n=0\/n=1\/n=2\/n=3\/n=4\/n=5\/n=6\/n=7\/n=8\/n=9:=om_
    all_goals decide
  · obtain ⟨h1,h2⟩:=ih (n / 10) om_ om_
    rw [dec_ge n om_,val_snoc,h2,List.all_append,h1];have hd:0<=n % 10/\n % 10<10:=om_;have hn:n=n / 10*10+n % 10:=om_;generalize n % 10=d at*;generalize n / 10=q at*;obtain rfl | rfl | rfl | rfl | rfl | rfl | rfl | rfl | rfl | rfl:d=0\/d=1\/d=2\/d=3\/d=4\/d=5\/d=6\/d=7\/d=8\/d=9:=om_
    all_goals exact ⟨dc_,by rw [hn];rfl⟩
theorem dec_backs (n:Int) (h0:0<=n):(dec n).all isDig=true/\val (dec n)=n:=dec_back (n.toNat+1) n h0 om_
theorem dec_lean1 (n:Int) (h0:0<=n):lean1 (dec n)=true:=(dec_lean (n.toNat+1) n h0 om_).1
theorem numM_dec {M n:Int} (h0:0<=n) (h1:n<=M):numM M (dec n)=true/\rnM M (dec n)=n:=by
 obtain ⟨a,b⟩:=dec_backs n h0;have:numM M (dec n)=true:=nM_yes (dec_lean1 n h0) a (by rw [b];exact h1);exact ⟨this,by rw [rnM_yes this,b]⟩
theorem numM_of {M:Int} {l:List UInt8} (h:numM M l=true):l=dec (rnM M l)/\0<=rnM M l/\rnM M l<=M:=by
 rw [rnM_yes h];simp only [numM,Bool.and_eq_true,decide_eq_true_eq] at h;obtain ⟨⟨h1,h2⟩,h3⟩:=h;exact ⟨(dec_val l h2 h1).1.symm,val_nonneg l h2,h3⟩
theorem n29_back {n:Int} (h0:0<=n) (h1:n<=1000):n29 (dec n)=n:=by
 obtain ⟨a,b⟩:=dec_backs n h0;have:=dec_small n h0 h1;have hne:=List.length_pos_iff.2 (dec_ne n);rw [n29_yes ⟨om_,om_⟩ a (by rw [b]),b]
theorem dig_no {l:List UInt8} (h:l.all isDig=true):(32:UInt8)∉l/\(10:UInt8)∉l:=by
 rw [List.all_eq_true] at h;constructor
 · intro hm;have:=h _ hm;revert this;decide
 · intro hm;have:=h _ hm;revert this;decide
theorem dec_no {n:Int} (h0:0<=n):(32:UInt8)∉dec n/\(10:UInt8)∉dec n:=dig_no (dec_backs n h0).1
theorem quote_ne (l:List UInt8):quoteL l≠[]:=by intro h;have:=quote_ge l;rw [h] at this;simp at this
theorem rest_ne {l:List UInt8} (h:restOf l≠[]):(32:UInt8)∈l:=by
 by_cases hm:(32:UInt8)∈l
 · exact hm
 · exact absurd (word_none hm).2 h
theorem word_both {l:List UInt8} (h:restOf l≠[]):l=wordOf l++32::restOf l:=(word_parts (rest_ne h)).1
theorem ofL_listE (l:List UInt8):(ofL l).data.toList=l:=rfl
def RdRes (l:List UInt8) (c:Int) (t:ByteArray) (ok:Bool):Prop:=(∀ c' t',0<=c'->c'<=7->l=resL c' t'->ok=true/\c=c'/\t=t')/\(ok=true->l=resL c t)
theorem resL_form (c:Int) (t:ByteArray):resL c t=dec c++32::quoteL t.data.toList:=by simp [resL]
theorem resL_ne (c:Int) (t:ByteArray):resL c t≠[]:=by rw [resL_form];simp
theorem res_parts {c:Int} (t:ByteArray) (h:0<=c):wordOf (resL c t)=dec c/\restOf (resL c t)=quoteL t.data.toList:=by
 rw [resL_form];exact word_split (dec_no h).1
theorem rdRes_yes {l t:List UInt8} (hu:Unq (restOf l) t true) (hn:numM 7 (wordOf l)=true):RdRes l (rnM 7 (wordOf l)) (ofL t) true:=by
 have hq:=hu.1 rfl;obtain ⟨d1,d2,d3⟩:=numM_of hn;constructor
 · intro c' t' h0 h7 e
   obtain ⟨e1,e2⟩:=res_parts t' h0;rw [<- e] at e1 e2;refine ⟨rfl,?_,?_⟩
   · rw [e1];exact (numM_dec h0 h7).2
   · have:t=t'.data.toList:=quoteL_inj (hq.symm.trans e2)
     rw [this];rfl
 · intro _
   rw [resL_form,<- d1,ofL_listE,<- hq];exact word_both (by rw [hq];exact quote_ne _)
theorem rdRes_no {l t:List UInt8} {oku:Bool} (hu:Unq (restOf l) t oku) (h:numM 7 (wordOf l)=false\/oku=false) (c:Int) (x:ByteArray):RdRes l c x false:=by
 refine ⟨fun c' t' h0 h7 e=>?_,fun h=>by cases h⟩;obtain ⟨e1,e2⟩:=res_parts t' h0;rw [<- e] at e1 e2;rcases h with h | h
 · rw [e1,(numM_dec h0 h7).1] at h;cases h
 · subst h;exact absurd e2 (hu.2 rfl _)
def lookB (x:L4):List UInt8:=(lookW x.has).data.toList++32::(x.nm.data.toList++32::resL x.cd x.tx)
theorem lookL_B (x:L4):lookL x=lookB x++[10]:=by
 unfold lookL lookB wordA lookW;cases x.has <;> simp
theorem lookW_no (b:Bool):(32:UInt8)∉(lookW b).data.toList/\(10:UInt8)∉(lookW b).data.toList:=by cases b <;> decide
theorem look_no10 {x:L4} (h:LkOk x):(10:UInt8)∉lookB x:=by
 unfold lookB;rw [resL_form];simp only [List.mem_append,List.mem_cons,not_or];exact ⟨(lookW_no _).2,dc_,(name_no h.1).2,dc_,(dec_no (lk_code h).1).2,dc_,quote_no10 _⟩
theorem look_parts {x:L4} (h:nameOk x.nm.data.toList=true):wordOf (lookB x)=(lookW x.has).data.toList/\wordOf (restOf (lookB x))=x.nm.data.toList/\restOf (restOf (lookB x))=resL x.cd x.tx:=by
 obtain ⟨a,b⟩:=word_split (r:=x.nm.data.toList++32::resL x.cd x.tx) (lookW_no x.has).1;obtain ⟨c,d⟩:=word_split (r:=resL x.cd x.tx) (name_no h).1;unfold lookB;rw [a,b,c,d];exact ⟨rfl,rfl,rfl⟩
def RdLook (l:List UInt8) (x:L4) (ok:Bool):Prop:=(∀ y,LkOk y->l=lookB y->ok=true/\x=y)/\(ok=true->LkOk x->l=lookB x)
def hasW (l:List UInt8):Bool:=decide (wordOf l=[104,97,115])
def isW (l:List UInt8):Bool:=hasW l || decide (wordOf l=[97,115,107])
theorem isW_word {l:List UInt8} (h:isW l=true):wordOf l=(lookW (hasW l)).data.toList:=by
 unfold isW at h;cases hh:hasW l
 · rw [hh] at h
   simp only [Bool.false_or,decide_eq_true_eq] at h;rw [h];rfl
 · unfold hasW at hh
   rw [decide_eq_true_eq] at hh;rw [hh];rfl
theorem word_isW {l:List UInt8} {b:Bool} (h:wordOf l=(lookW b).data.toList):isW l=true/\hasW l=b:=by
 unfold isW hasW;rw [h];cases b <;> decide
theorem rdLook_yes {l:List UInt8} {c:Int} {t:ByteArray} (hw:isW l=true) (hr:RdRes (restOf (restOf l)) c t true):RdLook l ⟨hasW l,ofL (wordOf (restOf l)),c,t⟩ true:=by
 constructor
 · intro y hy e
   obtain ⟨a,b,d⟩:=look_parts hy.1;rw [<- e] at a b d;obtain ⟨_,h1,h2⟩:=hr.1 _ _ (lk_code hy).1 (lk_code hy).2 d;refine ⟨rfl,?_⟩;rw [(word_isW a).2,b,h1,h2];rfl
 · intro _ _
   have e:=hr.2 rfl;have h2:restOf (restOf l)≠[]:=by rw [e];exact resL_ne _ _
   have h1:restOf l≠[]:=fun h=>by rw [h] at h2;exact h2 rfl
   unfold lookB;rw [ofL_listE,<- isW_word hw,<- e,<- word_both h2,<- word_both h1]
theorem rdLook_no {l:List UInt8} {c:Int} {t:ByteArray} {ok:Bool} (hr:RdRes (restOf (restOf l)) c t ok) (h:isW l=false\/ok=false) (x:L4):RdLook l x false:=by
 refine ⟨fun y hy e=>?_,fun h=>by cases h⟩;obtain ⟨a,b,d⟩:=look_parts hy.1;rw [<- e] at a b d;rcases h with h | h
 · rw [(word_isW a).1] at h;cases h
 · have:=(hr.1 _ _ (lk_code hy).1 (lk_code hy).2 d).1
   rw [h] at this;cases this
def RdLooks (ls:List (List UInt8)) (xs:List L4) (ok:Bool):Prop:=(∀ ys,(∀ i,i<ys.length->LkOk (ys.getD i l4z))->ls=ys.map lookB->ok=true/\xs=ys)/\(ok=true->(∀ i,i<xs.length->LkOk (xs.getD i l4z))->ls=xs.map lookB)
theorem lookB_getD (ys:List L4) (i:Nat) (h:i<ys.length):(ys.map lookB).getD i []=lookB (ys.getD i l4z):=by
 simp [List.getD,h]
theorem getD_ext {α:Type} {a b:List α} {d:α} (hl:a.length=b.length) (h:∀ i,i<a.length->a.getD i d=b.getD i d):a=b:=by
 refine List.ext_getElem hl fun i h1 h2=>?_;have:=h i h1;simpa [List.getD,h1,h2] using this
theorem rdLooks_yes {ls:List (List UInt8)} {xs:List L4} (hl:xs.length=ls.length) (h:∀ i,i<ls.length->RdLook (ls.getD i []) (xs.getD i l4z) true):RdLooks ls xs true:=by
 constructor
 · intro ys hy e
   subst e;rw [List.length_map] at hl h;refine ⟨rfl,getD_ext (d:=l4z) hl fun i hi=>?_⟩;exact ((h i om_).1 _ (hy i om_) (lookB_getD ys i om_)).2
 · intro _ hx
   refine getD_ext (d:=[]) (by rw [List.length_map,hl]) fun i hi=>?_;rw [lookB_getD xs i om_];exact (h i hi).2 rfl (hx i om_)
theorem rdLooks_no {ls:List (List UInt8)} {k:Nat} {x:L4} (hk:k<ls.length) (h:RdLook (ls.getD k []) x false) (xs:List L4):RdLooks ls xs false:=by
 refine ⟨fun ys hy e=>?_,fun h=>by cases h⟩;subst e;rw [List.length_map] at hk;have:=(h.1 _ (hy k hk) (lookB_getD ys k hk)).1;cases this
theorem set2_atE (u:World) (B j:Nat) (v0 v1 x0 x1:Value) (h0:u.cell? ⟨B,j,none⟩=some x0) (h1:u.cell? ⟨B,j+1,none⟩=some x1):
 ((u.setCell ⟨B,j,none⟩ v0).setCell ⟨B,j+1,none⟩ v1).cell? ⟨B,j,none⟩=some v0/\((u.setCell ⟨B,j,none⟩ v0).setCell ⟨B,j+1,none⟩ v1).cell? ⟨B,j+1,none⟩=some v1:=by
 have a1:(u.setCell ⟨B,j,none⟩ v0).cell? ⟨B,j+1,none⟩=some x1:=by rw [World.cell?_setCell_other _ _ _ _ (adr_neE om_)];exact h1
 refine ⟨?_,World.cell?_setCell_same _ _ _ a1⟩;rw [World.cell?_setCell_other _ _ _ _ (adr_neE om_)];exact World.cell?_setCell_same _ _ _ h0
def Is128 (l:List UInt8) (e:Ending):Prop:=∃ (c:Int) (t:ByteArray) (ok:Bool),e=.returned (.tuple #[.agg #[.int .i64 c,.string t],.bool ok])/\RdRes l c t ok/\t.size<=1048576
theorem c118 (l:List UInt8) (w:World) (hs:l.length<=16000) (hmx:MaxAt w):
 Calls prog 118 #[.string (ofL l)] w fun e w'=>Is128 l e/\Below w.heap.size w w':=by
 have hB0:Below w.heap.size w (w.alloc (.cells #[.int .i64 0,.string ⟨#[]⟩] 45)):=bA_;have hr:=rest_small l;go_enter func118,ntmps118
 go_wp2_with fail
 refine (c75wE l _ om_ (max_below hmx hB0)).mono ?_;rintro e w1 ⟨⟨y,rfl⟩,hb1⟩;have hx1:Below (w.heap.size+1) (w.alloc (.cells #[.int .i64 0,.string ⟨#[]⟩] 45)) w1:=by simpa using hb1
 clear hb1
 go_wp2_with fail
 refine (c76m 7 (ofL (wordOf l)) _ (by rw [ofL_size];omega) om_ om_).mono ?_;rintro e w2 ⟨rfl,rfl⟩
 go_wp2_with fail
 refine (c82' (restOf l) _ om_).mono ?_;rintro e w3 ⟨⟨t,ok,rfl,hu⟩,hb3⟩;have hx3:=hx1.trans (hb3.mono (by have h:=hx1.size;simp at h;omega));have hB3:Below w.heap.size w w3:=hB0.trans (hx3.mono om_);rw [ofL_listE];have hno:(numM 7 (wordOf l)=false\/ok=false)->Hid (Is128 l (.returned (.tuple #[.agg #[.int .i64 0,.string ⟨#[]⟩],.bool false]))):=fun h=>⟨0,⟨#[]⟩,false,rfl,rdRes_no hu h _ _,dc_⟩;have hyes:numM 7 (wordOf l)=true->ok=true->Hid (Is128 l (.returned (.tuple #[.agg #[.int .i64 (rnM 7 (wordOf l)),.string (ofL t)],.bool true]))):=by
  intro h1 h2;subst h2;refine ⟨_,_,true,rfl,rdRes_yes hu h1,?_⟩;have:=quote_ge t;rw [<- hu.1 rfl] at this;rw [ofL_size];omega
 clear hu;obtain ⟨⟨z0,z1⟩,y0,y1⟩:=rz2 hx3;cases hn:numM 7 (wordOf l)
 · have HI:=hno (.inl hn)
   clear hno hyes;go_wp2;have F:=set2_atE w3 w.heap.size 0 (.int .i64 0) (.string ⟨#[]⟩) _ _ z0 z1;simp only [Nat.zero_add] at F;refine bodyPost_ret (v:=.tuple #[.agg #[.int .i64 0,.string ⟨#[]⟩],.bool false]) (by simp [results,Tryz.results118,go_sem,F.1,F.2]) rfl ⟨HI.out,(hB3.setCell sm_ _).setCell sm_ _⟩
 · cases ok
   · have HI:=hno (.inr rfl)
     clear hno hyes;go_wp2;have F:=set2_atE w3 w.heap.size 0 (.int .i64 0) (.string ⟨#[]⟩) _ _ z0 z1;simp only [Nat.zero_add] at F;refine bodyPost_ret (v:=.tuple #[.agg #[.int .i64 0,.string ⟨#[]⟩],.bool false]) (by simp [results,Tryz.results118,go_sem,F.1,F.2]) rfl ⟨HI.out,(hB3.setCell sm_ _).setCell sm_ _⟩
   · have HI:=hyes hn rfl
     clear hno hyes;go_wp2;have F:=set2_atE w3 w.heap.size 0 (.int .i64 (rnM 7 (wordOf l))) (.string (ofL t)) _ _ z0 z1;simp only [Nat.zero_add] at F;refine bodyPost_ret (v:=.tuple #[.agg #[.int .i64 (rnM 7 (wordOf l)),.string (ofL t)],.bool true]) (by simp [results,Tryz.results118,go_sem,F.1,F.2]) rfl ⟨HI.out,(hB3.setCell sm_ _).setCell sm_ _⟩
theorem has_eq (l:List UInt8):((ofL (wordOf l)).toList==[104,97,115])=hasW l:=by
 rw [ByteArray.toList_eq,ofL_listE];unfold hasW;by_cases h:wordOf l=[104,97,115]
 · rw [h];rfl
 · rw [decide_eq_false h];exact beq_eq_false_iff_ne.2 h
theorem ask_eq (l:List UInt8):((ofL (wordOf l)).toList==[97,115,107])=decide (wordOf l=[97,115,107]):=by
 rw [ByteArray.toList_eq,ofL_listE];by_cases h:wordOf l=[97,115,107]
 · rw [h];rfl
 · rw [decide_eq_false h];exact beq_eq_false_iff_ne.2 h
theorem c171 (l:List UInt8) (w:World):
 Calls prog 171 #[.string (ofL (wordOf l))] w fun e w'=>e=.returned (.tuple #[.bool (hasW l),.bool (isW l)])/\Below w.heap.size w w':=by
 have h1:=has_eq l;have h2:=ask_eq l;have hI:isW l=(hasW l || decide (wordOf l=[97,115,107])):=rfl;generalize decide (wordOf l=[97,115,107])=a at*;generalize hasW l=h at*;generalize isW l=i at*;generalize ofL (wordOf l)=s at*;subst hI;go_enter func171,ntmps171;cases h <;> cases a
 all_goals
  go_wp2
  try go_region
 all_goals try go_wp2
 all_goals go_ret2
 all_goals
  refine ⟨by first | rfl | simp [h1,h2],?_⟩
  first | exact Below.refl _ _ | exact (Below.refl _ _).drew | exact (Below.refl _ _).drew.drew
end Go.Proofs.YtlckdgjfniglfaaGreatDoor
