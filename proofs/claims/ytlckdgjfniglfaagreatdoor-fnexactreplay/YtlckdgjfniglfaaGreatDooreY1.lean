import Derived.Test.YtlckdgjfniglfaaGreatDooreP4
import Derived.Lib.IndexBytes
import Derived.Lib.Split
import Derived.Test.YtlckdgjfniglfaaGreatDooreB6
set_option maxRecDepth 100000
set_option linter.unusedVariables false
set_option linter.unusedSimpArgs false
set_option maxHeartbeats 8000000
namespace Go.Proofs.YtlckdgjfniglfaaGreatDoor
open Proofs.Tryz
open Go.RowKit
theorem c61' (s:ByteArray) (w:World) (hs:s.size<=1048700):
 Calls prog 61 #[.string s] w fun e w'=>e=.returned (.string (ofL (quoteL s.data.toList)))/\Below w.heap.size w w':=c61 s w hs
theorem plain_iff (c:UInt8):plainB c=true↔32<=c.toNat/\c.toNat<=126/\c.toNat≠34/\c.toNat≠92:=by
 unfold plainB;simp only [Bool.and_eq_true,decide_eq_true_eq,Bool.not_eq_true',beq_eq_false_iff_ne];omega
theorem hexL_inj:∀ a b:Fin 16,hexL.getD a.val 0=hexL.getD b.val 0->a=b:=dc_
theorem hexL_eq {a b:Nat} (ha:a<16) (hb:b<16) (h:hexL.getD a 0=hexL.getD b 0):a=b:=by
 have:=hexL_inj ⟨a,ha⟩ ⟨b,hb⟩ h;exact Fin.mk.inj this
theorem u8_lt (c:UInt8):c.toNat<256:=c.toNat_lt
theorem qb_plain {c:UInt8} (h:plainB c=true):qb c=[c]:=by unfold qb;rw [if_pos h]
theorem qb_not {c:UInt8} (h:plainB c=false):qb c=[92,hexL.getD (c.toNat / 16) 0,hexL.getD (c.toNat % 16) 0]:=by unfold qb;rw [if_neg (by simp [h])]
theorem plain_92:plainB 92=false:=dc_
theorem qb_ne (c:UInt8):qb c≠[]:=by
 cases h:plainB c
 · rw [qb_not h];simp
 · rw [qb_plain h];simp
theorem qb_pre {c d:UInt8} {r q:List UInt8} (h:qb c++r=qb d++q):c=d/\r=q:=by
 cases hc:plainB c <;> cases hd:plainB d
 · rw [qb_not hc,qb_not hd] at h
   simp only [List.cons_append,List.nil_append,List.cons.injEq,true_and] at h;obtain ⟨h1,h2,h3⟩:=h;have lc:=u8_lt c;have ld:=u8_lt d;have e1:=hexL_eq om_ om_ h1;have e2:=hexL_eq om_ om_ h2;exact ⟨UInt8.toNat_inj.1 om_,h3⟩
 · rw [qb_not hc,qb_plain hd] at h
   simp only [List.cons_append,List.nil_append,List.cons.injEq] at h;rw [<- h.1,plain_92] at hd;cases hd
 · rw [qb_plain hc,qb_not hd] at h
   simp only [List.cons_append,List.nil_append,List.cons.injEq] at h;rw [h.1,plain_92] at hc;cases hc
 · rw [qb_plain hc,qb_plain hd] at h
   simpa using h
theorem flat_pre {t l R:List UInt8} (h:t.flatMap qb++R=l.flatMap qb):∃ r,R=r.flatMap qb/\l=t++r:=by
 induction t generalizing l with
 | nil=>exact ⟨l,by simpa using h,rfl⟩
 | cons c t ih=>
  cases l with
  | nil=>
   have:=qb_ne c;simp at h;exact absurd h.1 this
  | cons d l=>
   simp only [List.flatMap_cons,List.append_assoc] at h;obtain ⟨rfl,h2⟩:=qb_pre h;obtain ⟨r,hr,hl⟩:=ih h2;exact ⟨r,hr,by rw [hl];rfl⟩
theorem flat_inj {t l:List UInt8} (h:t.flatMap qb=l.flatMap qb):t=l:=by
 obtain ⟨r,hr,hl⟩:=flat_pre (t:=t) (l:=l) (R:=[]) (by simpa using h)
 cases r with
 | nil=>simpa using hl.symm
 | cons c r=>
  have:=qb_ne c;simp at hr;exact absurd hr.1 this
theorem quoteL_inj {t l:List UInt8} (h:quoteL t=quoteL l):t=l:=by
 unfold quoteL at h;simp only [List.cons.injEq,true_and,List.append_cancel_right_eq] at h;exact flat_inj h
theorem flat_ge (l:List UInt8):l.length<=(l.flatMap qb).length:=by
 induction l with
 | nil=>simp
 | cons c l ih=>
  have:1<=(qb c).length:=List.length_pos_iff.2 (qb_ne c);simp only [List.flatMap_cons,List.length_append,List.length_cons];omega
theorem quote_ge (l:List UInt8):l.length+2<=(quoteL l).length:=by
 have:=flat_ge l;unfold quoteL;simp only [List.length_cons,List.length_append,List.length_nil];omega
theorem hexL_no10:∀ a:Fin 16,hexL.getD a.val 0≠10/\hexL.getD a.val 0≠32:=dc_
theorem qb_no10 (c:UInt8):(10:UInt8)∉qb c:=by
 cases h:plainB c
 · rw [qb_not h]
   have lc:=u8_lt c;have h1:=(hexL_no10 ⟨c.toNat / 16,om_⟩).1;have h2:=(hexL_no10 ⟨c.toNat % 16,om_⟩).1;simp only [List.mem_cons,List.not_mem_nil,or_false,not_or];exact ⟨dc_,fun e=>h1 e.symm,fun e=>h2 e.symm⟩
 · rw [qb_plain h]
   have:=(plain_iff c).1 h;simp only [List.mem_cons,List.not_mem_nil,or_false];intro e;rw [<- e] at this;simp at this
theorem quote_no10 (l:List UInt8):(10:UInt8)∉quoteL l:=by
 unfold quoteL;simp only [List.mem_cons,List.mem_append,List.mem_flatMap,List.not_mem_nil,or_false,not_or];refine ⟨dc_,fun ⟨c,_,h⟩=>qb_no10 c h,dc_⟩
def hx (b:UInt8):Int:=if 48<=(b.toNat:Int)/\(b.toNat:Int)<=57 then (b.toNat:Int) - 48 else if 97<=(b.toNat:Int)/\(b.toNat:Int)<=102 then (b.toNat:Int) - 97+10 else -1
theorem ret_i {a b:Int} (h:a=b):Ending.returned (.int .i64 a)=.returned (.int .i64 b):=by rw [h]
theorem c58 (c:UInt8) (w:World):
 Calls prog 58 #[.int .u8 c.toNat] w fun e w'=>e=.returned (.int .i64 (hx c))/\w'=w:=by
 have hc:=u8_lt c;have HX:Hid (hx c=if 48<=(c.toNat:Int)/\(c.toNat:Int)<=57 then (c.toNat:Int) - 48 else if 97<=(c.toNat:Int)/\(c.toNat:Int)<=102 then (c.toNat:Int) - 97+10 else -1):=rfl;generalize (c.toNat:Int)=n at*;go_enter func58,ntmps58;go_wp2
 all_goals go_ret
 all_goals refine ⟨ret_i ?_,rfl⟩
 all_goals rw [HX.out]
 all_goals (repeat' split)
 all_goals omega
theorem hex_index (b:UInt8):(Lib.indexByte hexL b=-1/\∀ n,n<16->hexL.getD n 0≠b)\/∃ n:Nat,n<16/\Lib.indexByte hexL b=n/\hexL.getD n 0=b:=by
 have hge:=Lib.indexByte_ge hexL b;by_cases h:Lib.indexByte hexL b=-1
 · refine .inl ⟨h,fun n hn e=>Lib.indexByte_none h n ?_⟩
   have hl:n<hexL.length:=hn;rw [<- e];simp [List.getD,List.getElem?_eq_getElem hl]
 · obtain ⟨o,ho⟩:∃ o:Nat,Lib.indexByte hexL b=o:=⟨(Lib.indexByte hexL b).toNat,om_⟩
   obtain ⟨h1,_⟩:=Lib.indexByte_some ho;have hl:o<hexL.length:=by
    rcases Nat.lt_or_ge o hexL.length with h | h
    · exact h
    · rw [List.getElem?_eq_none h] at h1;cases h1
   exact .inr ⟨o,hl,ho,by simp [List.getD,h1]⟩
theorem c152 (b:UInt8) (w:World):
 Calls prog 152 #[.string ⟨#[48,49,50,51,52,53,54,55,56,57,97,98,99,100,101,102]⟩,.int .u8 b.toNat] w fun e w'=>e=.returned (.int .i64 (Lib.indexByte hexL b))/\w'=w:=by
 refine (Tryz.strings_IndexByte _ _ w).mono ?_;rintro e w' ⟨rfl,rfl⟩;refine ⟨ret_i ?_,rfl⟩;have e1:(b.toNat:Int).toNat.toUInt8=b:=sm_;rw [e1];rfl
theorem ret_u8b {a b:Int} {x y:Bool} (h:a=b) (h':x=y):Ending.returned (.tuple #[.int .u8 a,.bool x])=.returned (.tuple #[.int .u8 b,.bool y]):=by rw [h,h']
def Unesc (l:List UInt8) (c:UInt8) (ok:Bool):Prop:=(ok=true->plainB c=false/\∃ r,l=qb c++r)/\(ok=false->∀ d r,plainB d=false->l≠qb d++r)
theorem or_form0:∀ h l:Fin 16,bits BinOp.or IntKind.i64 (((h.val:Nat):Int)*16) ((l.val:Nat):Int)=16*((h.val:Nat):Int)+((l.val:Nat):Int):=by decide +kernel
theorem or_form (h l:Nat) (hh:h<16) (hl:l<16):bits BinOp.or IntKind.i64 ((h:Int)*16) (l:Int) % 256=((UInt8.ofNat (16*h+l)).toNat:Int):=by
 have:=or_form0 ⟨h,hh⟩ ⟨l,hl⟩;simp only at this;rw [this];simp
theorem ofNat_parts (h l:Nat) (hh:h<16) (hl:l<16):(UInt8.ofNat (16*h+l)).toNat / 16=h/\(UInt8.ofNat (16*h+l)).toNat % 16=l:=by
 have e:(UInt8.ofNat (16*h+l)).toNat=16*h+l:=so_;rw [e];omega
theorem list3_of (s:ByteArray) (h:2<s.size):∃ r,s.data.toList=s[0]::s[1]::s[2]::r:=by
 have hl:s.data.toList.length=s.size:=sm_;have g:∀ (k:Nat) (hk:k<s.size),s.data.toList[k]'(by simpa using hk)=s[k]:=fun k hk=>by simp [ByteArray.getElem_eq_getElem_data]
 rcases hd:s.data.toList with _ | ⟨a,_ | ⟨b,_ | ⟨c,r⟩⟩⟩
 · rw [hd] at hl;simp at hl;omega
 · rw [hd] at hl;simp at hl;omega
 · rw [hd] at hl;simp at hl;omega
 · have g0:=g 0 om_
   have g1:=g 1 om_;have g2:=g 2 h;simp only [hd,List.getElem_cons_zero,List.getElem_cons_succ] at g0 g1 g2;exact ⟨r,by rw [<- g0,<- g1,<- g2]⟩
theorem unesc_no {s:ByteArray} (h:2<s.size) (hn:s[0]≠92\/(∀ n,n<16->hexL.getD n 0≠s[1])\/(∀ n,n<16->hexL.getD n 0≠s[2])) (c:UInt8):Unesc s.data.toList c false:=by
 refine ⟨(fun h=>by cases h),fun _ d r hd e=>?_⟩;obtain ⟨q,hq⟩:=list3_of s h;rw [hq,qb_not hd] at e;simp only [List.cons_append,List.nil_append,List.cons.injEq] at e;have ld:=u8_lt d;rcases hn with hn | hn | hn
 · exact hn e.1
 · exact hn _ om_ e.2.1.symm
 · exact hn _ om_ e.2.2.1.symm
def Is88 (l:List UInt8) (e:Ending):Prop:=∃ c ok,e=.returned (.tuple #[.int .u8 (c:UInt8).toNat,.bool ok])/\Unesc l c ok
theorem c121 (s:ByteArray) (w:World) (hs:s.size<=1048700):
 Calls prog 121 #[.string s] w fun e w'=>Is88 s.data.toList e/\w'=w:=by
 by_cases h3:s.size<3
 · have HU:Hid (Unesc s.data.toList 0 false):=by
    refine ⟨(fun h=>by cases h),fun _ d r hd e=>?_⟩;have:=congrArg List.length e;rw [qb_not hd] at this;simp at this;omega
   go_enter func121,ntmps121;go_wp2;go_ret2;exact ⟨⟨0,false,rfl,HU.out⟩,rfl⟩
 · have hz0:0<s.size:=om_
   have hz1:1<s.size:=om_;have hz2:2<s.size:=om_;by_cases h92:s[0]=92
   · have e0:((s[0].toNat:Int) !=92)=false:=by rw [h92];rfl
     have H92:Hid (s[0]=92):=h92;clear h92;go_enter func121,ntmps121
     go_wp2_with fail
     refine (c152 _ _).mono ?_;rintro e w' ⟨rfl,rfl⟩
     go_wp2_with fail
     refine (c152 _ _).mono ?_;rintro e w' ⟨rfl,rfl⟩;rcases hex_index s[1] with ⟨hi,hin⟩ | ⟨h,hh,hi,hin⟩
     · have HU:Hid (Unesc s.data.toList 0 false):=unesc_no hz2 (.inr (.inl hin)) 0
       clear hin;rw [hi];go_wp2;go_ret2;exact ⟨⟨0,false,rfl,HU.out⟩,rfl⟩
     · rw [hi]
       rcases hex_index s[2] with ⟨lo,lon⟩ | ⟨l,hl,lo,lon⟩
       · have HU:Hid (Unesc s.data.toList 0 false):=unesc_no hz2 (.inr (.inr lon)) 0
         clear hin lon;rw [lo];go_wp2;go_ret2;exact ⟨⟨0,false,rfl,HU.out⟩,rfl⟩
       · rw [lo]
         have ho:=or_form h l hh hl;obtain ⟨p1,p2⟩:=ofNat_parts h l hh hl;have HQ:Hid (plainB (UInt8.ofNat (16*h+l))=false->qb (UInt8.ofNat (16*h+l))=([92,s[1],s[2]]:List UInt8)):=fun hp=>by
          rw [qb_not hp,p1,p2,hin,lon]
         have HV:Hid (plainB (UInt8.ofNat (16*h+l))=true->∀ d r,plainB d=false->s.data.toList≠qb d++r):=fun hp d r hd e=>by
          obtain ⟨q,hq⟩:=list3_of s hz2;rw [hq,qb_not hd] at e;simp only [List.cons_append,List.nil_append,List.cons.injEq] at e;have ld:=u8_lt d;have e1:=hexL_eq om_ hh (e.2.1.symm.trans hin.symm);have e2:=hexL_eq om_ hl (e.2.2.1.symm.trans lon.symm);have e3:d=UInt8.ofNat (16*h+l):=UInt8.toNat_inj.1 (by have:=u8_lt (UInt8.ofNat (16*h+l));omega);rw [<- e3,hd] at hp;cases hp
         clear hin lon p1 p2;generalize UInt8.ofNat (16*h+l)=c at*
         go_wp2_with fail
         rw [ho];refine (c119 c _).mono ?_;rintro e w' ⟨rfl,hw⟩;obtain rfl:=hw.symm;cases hp:plainB c
         · have HU:Hid (Unesc s.data.toList c true):=by
            refine ⟨fun _=>⟨hp,?_⟩,(fun h=>by cases h)⟩;obtain ⟨q,hq⟩:=list3_of s hz2;exact ⟨q,by rw [hq,HQ.out hp,H92.out];rfl⟩
           clear hp;go_wp2;go_ret2;exact ⟨⟨c,true,ret_u8b rfl rfl,HU.out⟩,rfl⟩
         · have HU:Hid (Unesc s.data.toList 0 false):=⟨(fun h=>by cases h),fun _=>HV.out hp⟩
           clear hp;go_wp2;go_ret2;exact ⟨⟨0,false,rfl,HU.out⟩,rfl⟩
   · have HU:Hid (Unesc s.data.toList 0 false):=unesc_no hz2 (.inl h92) 0
     have e0:((s[0].toNat:Int) !=92)=true:=by
      simp only [bne_iff_ne];intro e;exact h92 (UInt8.toNat_inj.1 (by
       have:s[0].toNat=92:=om_;rw [this];rfl))
     clear h92;go_enter func121,ntmps121;go_wp2;go_ret2;exact ⟨⟨0,false,rfl,HU.out⟩,rfl⟩
def cst (b:UInt8) (p:List (List UInt8)×List UInt8) (c:UInt8):List (List UInt8)×List UInt8:=if c=b then (p.1++[p.2],[]) else (p.1,p.2++[c])
def cstate (b:UInt8) (l:List UInt8):List (List UInt8)×List UInt8:=l.foldl (cst b) ([],[])
def cutS (b:UInt8) (l:List UInt8):List (List UInt8):=(cstate b l).1++[(cstate b l).2]
theorem cstate_snoc (b:UInt8) (l:List UInt8) (c:UInt8):cstate b (l++[c])=cst b (cstate b l) c:=by simp [cstate]
theorem cstate_len (b:UInt8) (l:List UInt8) (p:List (List UInt8)×List UInt8):(l.foldl (cst b) p).1.length<=p.1.length+l.length:=by
 induction l generalizing p with
 | nil=>simp
 | cons c l ih=>
  have:=ih (cst b p c);have h2:(cst b p c).1.length<=p.1.length+1:=by unfold cst;split <;> simp
  simp only [List.foldl_cons,List.length_cons];omega
theorem cstate_le (b:UInt8) (l:List UInt8):(cstate b l).1.length<=l.length:=by have:=cstate_len b l ([],[]);simpa [cstate] using this
def strL (ss:List (List UInt8)):List Value:=ss.map fun l=>.string (ofL l)
theorem strL_snoc (ss:List (List UInt8)) (l:List UInt8):strL (ss++[l])=strL ss++[.string (ofL l)]:=by simp [strL]
def LinesAt (w:World) (g:Nat) (ss:List (List UInt8)):Prop:=g<w.heap.size/\∀ i,i<ss.length->w.cell? ⟨g,i,none⟩=some (.string (ofL (ss.getD i [])))
theorem lines_below {w w':World} {g:Nat} {ss:List (List UInt8)} (h:LinesAt w g ss) (hb:Below w.heap.size w w'):LinesAt w' g ss:=
 ⟨Nat.lt_of_lt_of_le h.1 hb.size,fun i hi=>by rw [hb.cell (by exact h.1)];exact h.2 i hi⟩
theorem lines_of_owns {w:World} {base g k cp:Nat} {ss:List (List UInt8)} (h:w.ownsRow base 9 1 (.slice (some ⟨g,0,none⟩) k cp) k (strL ss)) (hl:ss.length=k):LinesAt w g ss:=by
 refine ⟨(h.lt g rfl).2,fun i hi=>?_⟩;rw [h.cellAt i om_];simp [strL,hi]
theorem own_formF {w:World} {base:Nat} {e:TypeId} {size:Nat} {v:Value} {n:Nat} {xs:List Value} (h:w.ownsRow base e size v n xs) (hn:0<n):∃ g cp,v=.slice (some ⟨g,0,none⟩) n cp:=by
 rcases h.2 with ⟨_,h0⟩ | ⟨g,cap,cur,hv,_⟩
 · omega
 · exact ⟨g,cap,hv⟩
theorem ext_ofL {s:ByteArray} {l:List UInt8} (h:s.data.toList=l):s=ofL l:=by
 apply ByteArray.ext;unfold ofL;rw [<- h]
theorem ext_listF (s:ByteArray) (a b:Nat):(s.extract a b).data.toList=(s.data.toList.take b).drop a:=by
 rw [ByteArray.data_extract,Array.toList_extract,List.extract_eq_take_drop,List.drop_take]
theorem c29 (s:ByteArray) (b:UInt8) (w:World) (hs:s.size<=1048700):
 Calls prog 29 #[.string s,.int .u8 b.toNat] w fun e w'=>(∃ g cp,e=.returned (.slice (some ⟨g,0,none⟩) (cutS b s.data.toList).length cp)/\w.heap.size<=g/\LinesAt w' g (cutS b s.data.toList))/\Below w.heap.size w w':=by
 obtain ⟨i0,hi,hz0,hz1,hz2⟩:=info_parts info9;have hlen:s.data.toList.length=s.size:=sm_;go_enter func29,ntmps29
 go_wp2_with fail
 go_loopw [5,6,7] (fun v fr i wr=>∃ (k f:Nat),k<=s.size/\f<=k/\i=.int .i64 k/\fr=.int .i64 f/\wr.ownsRow w.heap.size 9 1 v (cstate b (s.data.toList.take k)).1.length (strL (cstate b (s.data.toList.take k)).1)/\Hid ((s.data.toList.take k).drop f=(cstate b (s.data.toList.take k)).2)/\Below w.heap.size w wr/\w.heap.size+1<=wr.heap.size) (fun _ _ i _=>s.size - (intOf i).toNat)
 case atStart=>exact ⟨0,0,Nat.zero_le _,Nat.le_refl _,rfl,rfl,World.ownsRow_lit _ #[] 0 lr_ (Nat.zero_le _) rfl,rfl,bA_,sm_⟩
 case round=>
  obtain ⟨k,f,hk,hf,rfl,rfl,hown,hcur,hb,hz⟩:=hrel;have hL:(cstate b (s.data.toList.take k)).1.length<=k:=by
   have:=cstate_le b (s.data.toList.take k);rw [List.length_take] at this;omega
  by_cases hlt:k<s.size
  · have HS:Hid (cstate b (s.data.toList.take (k+1))=cst b (cstate b (s.data.toList.take k)) s[k]):=by rw [take_snoc s k hlt,cstate_snoc];rfl
    have HE:Hid (s.extract f k=ofL (cstate b (s.data.toList.take k)).2):=ext_ofL (by rw [ext_listF];exact hcur.out);by_cases hc:s[k]=b
    · have e1:((s[k].toNat:Int)==(b.toNat:Int))=true:=by rw [hc];simp
      have HC:Hid (cst b (cstate b (s.data.toList.take k)) s[k]=((cstate b (s.data.toList.take k)).1++[(cstate b (s.data.toList.take k)).2],[])):=by unfold cst;rw [if_pos hc];rfl
      have HD:Hid ((s.data.toList.take (k+1)).drop (k+1)=[]):=List.drop_of_length_le so_;clear hc hcur;generalize cstate b (s.data.toList.take k)=st at*
      go_wp2_with (at_builtin;refine wpList_append_own _ rfl _ _ 22 rfl w.heap.size 9 i0 (.string ⟨#[]⟩) 1 16 underlying22 hi hz0 hz1 hz2 rfl dc_ _ _ _ rfl (hown.alloc _) ⟨wr.heap.size,0,none⟩ 1 1 [_] rfl rfl (cell_one_new _ _ _) (by intro u hu;simp at hu;subst hu;rfl) (by unfold maxLen;omega) om_ so_ ?_;intro v' w2 hown' hgrow _)
      go_roundw
      case rel=>
       have hB2:Below w.heap.size w w2:=(hb.alloc hb.size _).grown hgrow so_ (fun j hj=>(hown.lt j hj).1);refine ⟨k+1,k+1,om_,Nat.le_refl _,by go_num,by go_num,?_,?_,hB2,by have:=hgrow.size;simp at this;omega⟩
       · rw [HS.out,HC.out,List.length_append,strL_snoc,<- HE.out]
         exact hown'
       · rw [HS.out,HC.out];exact HD.out
      case measure=>simp [intOf];omega
    · have e1:((s[k].toNat:Int)==(b.toNat:Int))=false:=by
       simp only [beq_eq_false_iff_ne];intro e;exact hc (UInt8.toNat_inj.1 om_)
      have HC:Hid (cst b (cstate b (s.data.toList.take k)) s[k]=((cstate b (s.data.toList.take k)).1,(cstate b (s.data.toList.take k)).2++[s[k]])):=by unfold cst;rw [if_neg hc];rfl
      have HD:Hid ((s.data.toList.take (k+1)).drop f=(s.data.toList.take k).drop f++[s[k]]):=by rw [take_snoc s k hlt,List.drop_append_of_le_length so_];rfl
      clear hc;generalize cstate b (s.data.toList.take k)=st at*;go_wp2;go_roundw
      case rel=>
       refine ⟨k+1,f,om_,om_,by go_num,rfl,?_,?_,hb,hz⟩
       · rw [HS.out,HC.out];exact hown
       · rw [HS.out,HC.out,HD.out,hcur.out];rfl
      case measure=>simp [intOf];omega
  · have HK:Hid (s.data.toList.take k=s.data.toList):=List.take_of_length_le om_
    have HE:Hid (s.extract f s.size=ofL (cstate b (s.data.toList.take k)).2):=ext_ofL (by rw [ext_listF,<- show k=s.size by omega];exact hcur.out);have HCU:Hid (cutS b s.data.toList=(cstate b (s.data.toList.take k)).1++[(cstate b (s.data.toList.take k)).2]):=by rw [HK.out];rfl
    clear hcur;generalize cstate b (s.data.toList.take k)=st at*
    go_wp2_with (at_builtin;refine wpList_append_own _ rfl _ _ 22 rfl w.heap.size 9 i0 (.string ⟨#[]⟩) 1 16 underlying22 hi hz0 hz1 hz2 rfl dc_ _ _ _ rfl (hown.alloc _) ⟨wr.heap.size,0,none⟩ 1 1 [_] rfl rfl (cell_one_new _ _ _) (by intro u hu;simp at hu;subst hu;rfl) (by unfold maxLen;omega) om_ so_ ?_;intro v' w2 hown' hgrow _;obtain ⟨g,cp,hvv⟩:=own_formF hown' om_;subst hvv)
    go_ret;have hB2:Below w.heap.size w w2:=(hb.alloc hb.size _).grown hgrow so_ (fun j hj=>(hown.lt j hj).1);have ho2:w2.ownsRow w.heap.size 9 1 (.slice (some ⟨g,0,none⟩) (st.1.length+1) cp) (st.1.length+1) (strL (cutS b s.data.toList)):=by
     rw [HCU.out,strL_snoc,<- HE.out];exact hown'
    have hlc:(cutS b s.data.toList).length=st.1.length+1:=by rw [HCU.out];simp
    refine ⟨⟨g,cp,by rw [hlc];rfl,(ho2.lt g rfl).1,lines_of_owns ho2 hlc⟩,hB2⟩
def wordOf (l:List UInt8):List UInt8:=l.takeWhile (· !=32)
def restOf (l:List UInt8):List UInt8:=(l.dropWhile (· !=32)).drop 1
theorem word_at {l:List UInt8} {k:Nat} (ha:(l.take k).all (· !=32)=true) (_hk:k<=l.length) (he:k=l.length\/l.getD k 0=32):wordOf l=l.take k/\restOf l=l.drop (k+1):=by
 have h:l.takeWhile (· !=32)=l.take k/\l.dropWhile (· !=32)=l.drop k:=by
  rcases Nat.lt_or_ge k l.length with hlt | hge
  · have hx:l[k]=32:=by
     rcases he with he | he
     · omega
     · simpa [hlt] using he
    have hsplit:l=l.take k++l[k]::l.drop (k+1):=by rw [<- List.drop_eq_getElem_cons hlt,List.take_append_drop]
    have hall:∀ a∈l.take k,(a !=32)=true:=fun a h=>List.all_eq_true.1 ha a h;constructor
    · conv=>lhs;rw [hsplit]
      rw [List.takeWhile_append_of_pos hall,hx];simp
    · conv=>lhs;rw [hsplit]
      rw [List.dropWhile_append_of_pos hall,hx];rw [List.drop_eq_getElem_cons hlt,hx];simp
  · rw [List.take_of_length_le hge] at ha
    rw [List.take_of_length_le hge,List.drop_of_length_le hge];have hall:∀ a∈l,(a !=32)=true:=fun a h=>List.all_eq_true.1 ha a h;have:=List.takeWhile_append_of_pos (l₂:=[]) hall;have h2:=List.dropWhile_append_of_pos (l₂:=[]) hall;simp only [List.append_nil,List.takeWhile_nil,List.dropWhile_nil] at this h2;exact ⟨this,h2⟩
 refine ⟨h.1,?_⟩;unfold restOf;rw [h.2,List.drop_drop]
def restN (l:List UInt8):Nat->List UInt8
 | 0=>l
 | k+1=>restOf (restN l k)
def wordsN (l:List UInt8) (k:Nat):List (List UInt8):=(List.range k).map fun j=>wordOf (restN l j)
theorem wordsN_succ (l:List UInt8) (k:Nat):wordsN l (k+1)=wordsN l k++[wordOf (restN l k)]:=by simp [wordsN,List.range_succ]
theorem rest_small (l:List UInt8):(wordOf l).length<=l.length/\(restOf l).length<=l.length:=by
 unfold wordOf restOf;refine ⟨(List.takeWhile_sublist _).length_le,?_⟩;have:=(List.dropWhile_sublist (l:=l) (· !=32)).length_le;simp only [List.length_drop];omega
theorem restN_len (l:List UInt8) (k:Nat):(restN l k).length<=l.length:=by
 induction k with
 | zero=>exact Nat.le_refl _
 | succ k ih=>exact Nat.le_trans (rest_small _).2 ih
theorem word_none {l:List UInt8} (h:(32:UInt8)∉l):wordOf l=l/\restOf l=[]:=by
 have:=word_at (l:=l) (k:=l.length) (by rw [List.take_length,List.all_eq_true];intro a ha;simp only [bne_iff_ne];intro e;exact h (e▸ha)) lr_ (.inl rfl);rw [List.take_length,List.drop_of_length_le om_] at this;exact this
theorem word_split {a r:List UInt8} (h:(32:UInt8)∉a):wordOf (a++32::r)=a/\restOf (a++32::r)=r:=by
 have:=word_at (l:=a++32::r) (k:=a.length) (by rw [List.take_left,List.all_eq_true];intro x ha;simp only [bne_iff_ne];intro e;exact h (e▸ha)) sm_ (.inr sm_);rw [List.take_left] at this;refine ⟨this.1,this.2.trans ?_⟩;rw [<- List.drop_drop,List.drop_left];rfl
theorem word_parts {l:List UInt8} (h:(32:UInt8)∈l):l=wordOf l++32::restOf l/\(32:UInt8)∉wordOf l:=by
 obtain ⟨a,r,rfl,ha⟩:=List.eq_append_cons_of_mem h;obtain ⟨h1,h2⟩:=word_split (r:=r) ha;rw [h1,h2];exact ⟨rfl,ha⟩
theorem idx_one (l:List UInt8):(Lib.index l [32]=-1/\(32:UInt8)∉l)\/(∃ i:Nat,Lib.index l [32]=i/\(32:UInt8)∈l/\l.take i=wordOf l/\l.drop (i+1)=restOf l):=by
 rw [Lib.index_one];have hge:=Lib.indexByte_ge l 32;by_cases h:Lib.indexByte l 32=-1
 · refine .inl ⟨h,fun hm=>?_⟩
   obtain ⟨k,hk,e⟩:=List.getElem_of_mem hm;exact Lib.indexByte_none h k (by rw [List.getElem?_eq_getElem hk,e])
 · obtain ⟨o,ho⟩:∃ o:Nat,Lib.indexByte l 32=o:=⟨(Lib.indexByte l 32).toNat,om_⟩
   obtain ⟨h1,h2⟩:=Lib.indexByte_some ho;have hl:o<l.length:=by
    rcases Nat.lt_or_ge o l.length with h | h
    · exact h
    · rw [List.getElem?_eq_none h] at h1;cases h1
   have hm:(32:UInt8)∈l:=List.mem_of_getElem? h1;have:=word_at (l:=l) (k:=o) (by
    rw [List.all_eq_true];intro x hx;simp only [bne_iff_ne];rintro rfl;obtain ⟨k,hk,e⟩:=List.getElem_of_mem hx;rw [List.length_take] at hk;rw [List.getElem_take] at e;exact h2 k om_ (by rw [List.getElem?_eq_getElem om_,e])) om_ (.inr (by simp [List.getD,h1]))
   exact .inr ⟨o,ho,hm,this.1.symm,this.2.symm⟩
theorem cut_32 (l:List UInt8):(Lib.cut l [32]).1=wordOf l:=by
 unfold Lib.cut;rcases idx_one l with ⟨h,hn⟩ | ⟨i,h,_,h1,_⟩
 · rw [h,if_neg om_,(word_none hn).1]
 · rw [h,if_pos om_];exact h1
def parts1 (l:List UInt8) (n:Nat):List (List UInt8):=Lib.splitK [32] 0 n l
theorem parts_zero (l:List UInt8):parts1 l 0=[l]:=rfl
theorem parts_no {l:List UInt8} (n:Nat) (h:(32:UInt8)∉l):parts1 l n=[l]:=by
 cases n with
 | zero=>rfl
 | succ n=>
  unfold parts1 Lib.splitK;rcases idx_one l with ⟨h',_⟩ | ⟨i,_,hm,_⟩
  · rw [h'];rfl
  · exact absurd hm h
theorem parts_yes {l:List UInt8} (n:Nat) (h:(32:UInt8)∈l):parts1 l (n+1)=wordOf l::parts1 (restOf l) n:=by
 unfold parts1;rw [Lib.splitK];rcases idx_one l with ⟨_,hn⟩ | ⟨i,hi,_,h1,h2⟩
 · exact absurd h hn
 · rw [hi,if_neg sm_]
   simp only [Int.toNat_natCast,Nat.add_zero,List.length_singleton,h1,h2]
theorem cut_32b (l:List UInt8):(Lib.cut l [32]).2.1=restOf l:=by
 unfold Lib.cut;rcases idx_one l with ⟨h,hn⟩ | ⟨i,h,_,_,h2⟩
 · rw [h,if_neg om_,(word_none hn).2]
 · rw [h,if_pos om_];exact h2
theorem parts_min (l:List UInt8):parts1 l (min 3 (l.length+1) - 1)=parts1 l 2:=by
 rcases Nat.lt_or_ge l.length 2 with h | h
 · cases l with
   | nil=>rw [parts_no _ sm_,parts_no _ sm_]
   | cons c r=>
    cases r with
    | cons d r=>simp at h;omega
    | nil=>
     by_cases h32:(32:UInt8)∈[c]
     · have e:restOf [c]=[]:=by
        simp only [List.mem_singleton] at h32;subst h32;rfl
       have e1:min 3 ([c].length+1) - 1=0+1:=rfl;rw [e1,parts_yes 0 h32,parts_yes 1 h32,e,parts_no _ sm_,parts_no _ sm_]
     · rw [parts_no _ h32,parts_no _ h32]
 · have:min 3 (l.length+1)=3:=om_
   rw [this]
theorem split32 {a b r q:List UInt8} (ha:(32:UInt8)∉a) (hb:(32:UInt8)∉b) (h:a++32::r=b++32::q):a=b/\r=q:=by
 induction a generalizing b with
 | nil=>
  cases b with
  | nil=>simpa using h
  | cons c b=>simp at h;exact absurd (by rw [h.1];simp) hb
 | cons d a ih=>
  cases b with
  | nil=>simp at h;exact absurd (by rw [h.1];simp) ha
  | cons c b=>
   simp only [List.cons_append,List.cons.injEq] at h;obtain ⟨h1,h2⟩:=ih (fun h=>ha (List.mem_cons_of_mem _ h)) (fun h=>hb (List.mem_cons_of_mem _ h)) h.2;exact ⟨by rw [h.1,h1],h2⟩
theorem tx_inj {a b:ByteArray} (h:a.data.toList=b.data.toList):a=b:=ByteArray.ext (Array.toList_inj.1 h)
theorem name_no {l:List UInt8} (h:nameOk l=true):(32:UInt8)∉l/\(10:UInt8)∉l:=by
 simp only [nameOk,Bool.and_eq_true,List.all_eq_true] at h;constructor
 · intro hm
   have:=h.2 _ hm;revert this;decide
 · intro hm
   have:=h.2 _ hm;revert this;decide
theorem okM_facts {x:M3} (h:okM x=true):nameOk x.nm.data.toList=true/\nameOk x.tl.data.toList=true/\(x.ar.size:Int)<=300:=by
 simp only [okM,Bool.and_eq_true,decide_eq_true_eq] at h;exact ⟨h.1.1,h.1.2,h.2⟩
theorem body_form (x:M3):bodyL x=x.nm.data.toList++32::(x.tl.data.toList++32::quoteL x.ar.data.toList):=by simp [bodyL]
theorem body_ne (x:M3):bodyL x≠[]:=by rw [body_form];simp
theorem bodyL_inj {x y:M3} (hx:okM x=true) (hy:okM y=true) (h:bodyL x=bodyL y):x=y:=by
 obtain ⟨a1,a2,_⟩:=okM_facts hx;obtain ⟨b1,b2,_⟩:=okM_facts hy;rw [body_form,body_form] at h;obtain ⟨e1,h⟩:=split32 (name_no a1).1 (name_no b1).1 h;obtain ⟨e2,h⟩:=split32 (name_no a2).1 (name_no b2).1 h;have e3:=quoteL_inj h;cases x;cases y;simp only [M3.mk.injEq];exact ⟨tx_inj e1,tx_inj e2,tx_inj e3⟩
theorem cst_line (p:List (List UInt8)×List UInt8) (a:List UInt8) (h:(10:UInt8)∉a):(a++[10]).foldl (cst 10) p=(p.1++[p.2++a],[]):=by
 induction a generalizing p with
 | nil=>simp [cst]
 | cons c a ih=>
  have hc:c≠10:=fun e=>h (by rw [e];simp);rw [List.cons_append,List.foldl_cons,ih _ (fun h'=>h (List.mem_cons_of_mem _ h'))];simp [cst,hc]
theorem cut_piece (b:UInt8) (l:List UInt8) (p:List (List UInt8)×List UInt8) (N:Nat) (h1:∀ x∈p.1,x.length<=N) (h2:p.2.length+l.length<=N):(∀ x∈(l.foldl (cst b) p).1,x.length<=N)/\(l.foldl (cst b) p).2.length<=N:=by
 induction l generalizing p with
 | nil=>exact ⟨h1,by simpa using h2⟩
 | cons c l ih=>
  rw [List.foldl_cons];apply ih
  · unfold cst;split
    · intro x hx
      rcases List.mem_append.1 hx with h | h
      · exact h1 x h
      · simp at h;subst h;simp at h2;omega
    · exact h1
  · simp only [List.length_cons] at h2
    unfold cst;split
    · simp;omega
    · simp;omega
theorem cut_smallE (b:UInt8) (l:List UInt8) (k:Nat):((cutS b l).getD k []).length<=l.length:=by
 obtain ⟨h1,h2⟩:=cut_piece b l ([],[]) l.length sm_ sm_;have h:∀ x∈cutS b l,x.length<=l.length:=by
  intro x hx;unfold cutS cstate at hx;rcases List.mem_append.1 hx with h | h
  · exact h1 x h
  · simp at h;subst h;exact h2
 rcases Nat.lt_or_ge k (cutS b l).length with hk | hk
 · rw [List.getD,List.getElem?_eq_getElem hk];exact h _ (List.getElem_mem hk)
 · rw [List.getD,List.getElem?_eq_none hk];simp
theorem cut_len (b:UInt8) (l:List UInt8):1<=(cutS b l).length/\(cutS b l).length<=l.length+1:=by
 have:=cstate_le b l;unfold cutS;rw [List.length_append,List.length_singleton];omega
def IsBodyM (l:List UInt8) (x:M3) (ok:Bool):Prop:=(ok=true->okM x=true/\l=bodyL x)/\(ok=false->∀ y,okM y=true->l≠bodyL y)
theorem bodyM_no {l:List UInt8} {x:M3} (h:∀ y,okM y=true->l≠bodyL y):IsBodyM l x false:=⟨(fun h=>by cases h),fun _=>h⟩
theorem bodyM_two {l:List UInt8} {y:M3} (hy:okM y=true) (h:l=bodyL y):((32:UInt8)∈l/\(32:UInt8)∈restOf l)/\wordOf l=y.nm.data.toList/\wordOf (restOf l)=y.tl.data.toList/\restOf (restOf l)=quoteL y.ar.data.toList:=by
 obtain ⟨h1,h2,_⟩:=okM_facts hy;rw [body_form] at h;have w1:=word_split (r:=y.tl.data.toList++32::quoteL y.ar.data.toList) (name_no h1).1;have w2:=word_split (r:=quoteL y.ar.data.toList) (name_no h2).1;rw [h,w1.1,w1.2,w2.1,w2.2];exact ⟨⟨sm_,sm_⟩,rfl,rfl,rfl⟩
theorem bodyM_parts {l t:List UInt8} {ok:Bool} (hm:(32:UInt8)∈l) (hm2:(32:UInt8)∈restOf l) (hu:(ok=true->restOf (restOf l)=quoteL t)/\(ok=false->∀ q,restOf (restOf l)≠quoteL q)):
 (ok=true->okM ⟨ofL (wordOf l),ofL (wordOf (restOf l)),ofL t⟩=true->IsBodyM l ⟨ofL (wordOf l),ofL (wordOf (restOf l)),ofL t⟩ true)/\(¬ (ok=true/\okM ⟨ofL (wordOf l),ofL (wordOf (restOf l)),ofL t⟩=true)->∀ y,okM y=true->l≠bodyL y):=by
 constructor
 · intro h1 h2
   refine ⟨fun _=>⟨h2,?_⟩,(fun h=>by cases h)⟩;rw [body_form];show l=wordOf l++32::(wordOf (restOf l)++32::quoteL t);rw [<- hu.1 h1,<- (word_parts hm2).1,<- (word_parts hm).1]
 · intro hn y hy e
   obtain ⟨_,e1,e2,e3⟩:=bodyM_two hy e;apply hn;cases ok
   · exact absurd e3 (hu.2 rfl _)
   · refine ⟨rfl,?_⟩
     have:t=y.ar.data.toList:=quoteL_inj ((hu.1 rfl).symm.trans e3);rw [this,e1,e2];exact hy
theorem c239 (n:Int) (w:World):
 Calls prog 239 #[.int .i64 n] w fun e w'=>e=.returned (.bool (decide (1<=n/\n<=200)))/\w'=w:=by
 by_cases h1:1<=n <;> by_cases h2:n<=200
 all_goals
  go_enter func239,ntmps239;go_wp2
  all_goals go_ret
  all_goals exact ⟨by simp [*],rfl⟩
end Go.Proofs.YtlckdgjfniglfaaGreatDoor
