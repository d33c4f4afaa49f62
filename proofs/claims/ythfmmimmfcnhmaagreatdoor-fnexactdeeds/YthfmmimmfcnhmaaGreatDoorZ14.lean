import Derived.Test.YthfmmimmfcnhmaaGreatDoorT9
import Derived.Test.YthfmmimmfcnhmaaGreatDoorZ00
set_option maxHeartbeats 8000000
namespace Go.Proofs.YthfmmimmfcnhmaaGreatDoor
open Proofs.Tryz
open Go.RowKit
variable {a b:Int} {c:UInt8} {l q r t:List UInt8}
theorem plain_iff (c:UInt8):plainB c=true↔32<=c.toNat/\c.toNat<=126/\c.toNat≠34/\c.toNat≠92:=by
 unfold plainB
 simp only [Bool.and_eq_true,decide_eq_true_eq,Bool.not_eq_true',beq_eq_false_iff_ne]
 omega
theorem hexL_inj:∀ a b:Fin 16,hexL.getD a.val 0=hexL.getD b.val 0->a=b:=by decide
theorem hexL_eq {a b:Nat} (ha:a<16) (hb:b<16) (h:hexL.getD a 0=hexL.getD b 0):a=b:=by
 have:=hexL_inj ⟨a,ha⟩ ⟨b,hb⟩ h
 exact Fin.mk.inj this
theorem u8_lt (c:UInt8):c.toNat<256:=c.toNat_lt
theorem qb_plain (h:plainB c=true):qb c=[c]:=by unfold qb;rw [if_pos h]
theorem qb_not (h:plainB c=false):qb c=[92,hexL.getD (c.toNat / 16) 0,hexL.getD (c.toNat % 16) 0]:=by unfold qb;rw [if_neg (by simp [h])]
theorem plain_92:plainB 92=false:=by decide
theorem qb_ne (c:UInt8):qb c≠[]:=by
 cases h:plainB c
 · rw [qb_not h];simp
 rw [qb_plain h];simp
theorem qb_pre {d:UInt8} (h:qb c++r=qb d++q):c=d/\r=q:=by
 cases hc:plainB c <;> cases hd:plainB d
 · rw [qb_not hc,qb_not hd] at h
   simp only [List.cons_append,List.nil_append,List.cons.injEq,true_and] at h
   obtain ⟨h1,h2,h3⟩:=h
   have lc:=u8_lt c
   have ld:=u8_lt d
   have e1:=hexL_eq (by omega) (by omega) h1
   have e2:=hexL_eq (by omega) (by omega) h2
   exact ⟨UInt8.toNat_inj.1 (by omega),h3⟩
 · rw [qb_not hc,qb_plain hd] at h
   simp only [List.cons_append,List.nil_append,List.cons.injEq] at h
   rw [<- h.1,plain_92] at hd;cases hd
 · rw [qb_plain hc,qb_not hd] at h
   simp only [List.cons_append,List.nil_append,List.cons.injEq] at h
   rw [h.1,plain_92] at hc;cases hc
 rw [qb_plain hc,qb_plain hd] at h
 simpa using h
theorem flat_pre {R:List UInt8} (h:t.flatMap qb++R=l.flatMap qb):∃ r,R=r.flatMap qb/\l=t++r:=by
 induction t generalizing l with
 | nil=>exact ⟨l,by simpa using h,rfl⟩
 | cons c t ih=>
  cases l with
  | nil=>
   have:=qb_ne c
   simp at h
   exact absurd h.1 this
  | cons d l=>
   simp only [List.flatMap_cons,List.append_assoc] at h
   obtain ⟨rfl,h2⟩:=qb_pre h
   obtain ⟨r,hr,hl⟩:=ih h2
   exact ⟨r,hr,by rw [hl];rfl⟩
theorem flat_inj (h:t.flatMap qb=l.flatMap qb):t=l:=by
 obtain ⟨r,hr,hl⟩:=flat_pre (t:=t) (l:=l) (R:=[]) (by simpa using h)
 cases r with
 | nil=>simpa using hl.symm
 | cons c r=>
  have:=qb_ne c
  simp at hr
  exact absurd hr.1 this
theorem quoteL_inj (h:quoteL t=quoteL l):t=l:=by
 unfold quoteL at h
 simp only [List.cons.injEq,true_and,List.append_cancel_right_eq] at h
 exact flat_inj h
theorem flat_ge (l:List UInt8):l.length<=(l.flatMap qb).length:=by
 induction l with
 | nil=>simp
 | cons c l ih=>
  have:1<=(qb c).length:=List.length_pos_iff.2 (qb_ne c)
  simp only [List.flatMap_cons,List.length_append,List.length_cons];omega
theorem quote_ge (l:List UInt8):l.length+2<=(quoteL l).length:=by
 have:=flat_ge l
 unfold quoteL;simp only [List.length_cons,List.length_append,List.length_nil];omega
theorem hexL_no10:∀ a:Fin 16,hexL.getD a.val 0≠10/\hexL.getD a.val 0≠32:=by decide
theorem qb_no10 (c:UInt8):(10:UInt8)∉qb c:=by
 cases h:plainB c
 · rw [qb_not h]
   have lc:=u8_lt c
   have h1:=(hexL_no10 ⟨c.toNat / 16,by omega⟩).1
   have h2:=(hexL_no10 ⟨c.toNat % 16,by omega⟩).1
   simp only [List.mem_cons,List.not_mem_nil,or_false,not_or]
   exact ⟨by decide,fun e=>h1 e.symm,fun e=>h2 e.symm⟩
 rw [qb_plain h]
 have:=(plain_iff c).1 h
 simp only [List.mem_cons,List.not_mem_nil,or_false]
 intro e;rw [<- e] at this;simp at this
theorem quote_no10 (l:List UInt8):(10:UInt8)∉quoteL l:=by
 unfold quoteL
 simp only [List.mem_cons,List.mem_append,List.mem_flatMap,List.not_mem_nil,or_false,not_or]
 refine ⟨by decide,fun ⟨c,_,h⟩=>qb_no10 c h,by decide⟩
def hx (b:UInt8):Int:=if 48<=(b.toNat:Int)/\(b.toNat:Int)<=57 then (b.toNat:Int) - 48 else if 97<=(b.toNat:Int)/\(b.toNat:Int)<=102 then (b.toNat:Int) - 97+10 else -1
theorem ret_i (h:a=b):Ending.returned (.int .i64 a)=.returned (.int .i64 b):=by rw [h]
theorem c111 (c:UInt8) (w:World):
 Calls prog 111 #[.int .u8 c.toNat] w fun e w'=>e=.returned (.int .i64 (hx c))/\w'=w:=by
 have hc:=u8_lt c
 have HX:Hid (hx c=if 48<=(c.toNat:Int)/\(c.toNat:Int)<=57 then (c.toNat:Int) - 48 else if 97<=(c.toNat:Int)/\(c.toNat:Int)<=102 then (c.toNat:Int) - 97+10 else -1):=rfl
 generalize (c.toNat:Int)=n at*
 go_enter func111,ntmps111
 go_wp2
 all_goals go_ret
 all_goals refine ⟨ret_i ?_,rfl⟩
 all_goals rw [HX.out]
 all_goals (repeat' split)
 all_goals omega
theorem hex_index (b:UInt8):(Lib.indexByte hexL b=-1/\∀ n,n<16->hexL.getD n 0≠b)\/∃ n:Nat,n<16/\Lib.indexByte hexL b=n/\hexL.getD n 0=b:=by
 have hge:=Lib.indexByte_ge hexL b
 by_cases h:Lib.indexByte hexL b=-1
 · refine .inl ⟨h,fun n hn e=>Lib.indexByte_none h n ?_⟩
   have hl:n<hexL.length:=hn
   rw [<- e]
   simp [List.getD,List.getElem?_eq_getElem hl]
 obtain ⟨o,ho⟩:∃ o:Nat,Lib.indexByte hexL b=o:=⟨(Lib.indexByte hexL b).toNat,by omega⟩
 obtain ⟨h1,_⟩:=Lib.indexByte_some ho
 have hl:o<hexL.length:=by
  rcases Nat.lt_or_ge o hexL.length with h | h
  · exact h
  rw [List.getElem?_eq_none h] at h1;cases h1
 exact .inr ⟨o,hl,ho,by simp [List.getD,h1]⟩
theorem c183 (b:UInt8) (w:World):
 Calls prog 183 #[.string ⟨#[48,49,50,51,52,53,54,55,56,57,97,98,99,100,101,102]⟩,.int .u8 b.toNat] w fun e w'=>e=.returned (.int .i64 (Lib.indexByte hexL b))/\w'=w:=by
 refine (Tryz.strings_IndexByte _ _ w).mono ?_
 rintro e w' ⟨rfl,rfl⟩
 refine ⟨ret_i ?_,rfl⟩
 have e1:(b.toNat:Int).toNat.toUInt8=b:=by simp
 rw [e1]
 rfl
theorem ret_u8b {x y:Bool} (h:a=b) (h':x=y):Ending.returned (.tuple #[.int .u8 a,.bool x])=.returned (.tuple #[.int .u8 b,.bool y]):=by rw [h,h']
def Unesc (l:List UInt8) (c:UInt8) (ok:Bool):Prop:=(ok=true->plainB c=false/\∃ r,l=qb c++r)/\(ok=false->∀ d r,plainB d=false->l≠qb d++r)
theorem or_form0:∀ h l:Fin 16,bits BinOp.or IntKind.i64 (((h.val:Nat):Int)*16) ((l.val:Nat):Int)=16*((h.val:Nat):Int)+((l.val:Nat):Int):=by decide +kernel
theorem or_form (h l:Nat) (hh:h<16) (hl:l<16):bits BinOp.or IntKind.i64 ((h:Int)*16) (l:Int) % 256=((UInt8.ofNat (16*h+l)).toNat:Int):=by
 have:=or_form0 ⟨h,hh⟩ ⟨l,hl⟩
 simp only at this
 rw [this]
 simp
theorem ofNat_parts (h l:Nat) (hh:h<16) (hl:l<16):(UInt8.ofNat (16*h+l)).toNat / 16=h/\(UInt8.ofNat (16*h+l)).toNat % 16=l:=by
 have e:(UInt8.ofNat (16*h+l)).toNat=16*h+l:=by simp;omega
 rw [e];omega
theorem list3_of (s:ByteArray) (h:2<s.size):∃ r,s.data.toList=s[0]::s[1]::s[2]::r:=by
 have hl:s.data.toList.length=s.size:=by simp
 have g:∀ (k:Nat) (hk:k<s.size),s.data.toList[k]'(by simpa using hk)=s[k]:=fun k hk=>by simp [ByteArray.getElem_eq_getElem_data]
 rcases hd:s.data.toList with _ | ⟨a,_ | ⟨b,_ | ⟨c,r⟩⟩⟩
 · rw [hd] at hl;simp at hl;omega
 · rw [hd] at hl;simp at hl;omega
 · rw [hd] at hl;simp at hl;omega
 have g0:=g 0 (by omega)
 have g1:=g 1 (by omega)
 have g2:=g 2 h
 simp only [hd,List.getElem_cons_zero,List.getElem_cons_succ] at g0 g1 g2
 exact ⟨r,by rw [<- g0,<- g1,<- g2]⟩
theorem unesc_no {s:ByteArray} (h:2<s.size) (hn:s[0]≠92\/(∀ n,n<16->hexL.getD n 0≠s[1])\/(∀ n,n<16->hexL.getD n 0≠s[2])) (c:UInt8):Unesc s.data.toList c false:=by
 refine ⟨(fun h=>by cases h),fun _ d r hd e=>?_⟩
 obtain ⟨q,hq⟩:=list3_of s h
 rw [hq,qb_not hd] at e
 simp only [List.cons_append,List.nil_append,List.cons.injEq] at e
 have ld:=u8_lt d
 rcases hn with hn | hn | hn
 · exact hn e.1
 · exact hn _ (by omega) e.2.1.symm
 exact hn _ (by omega) e.2.2.1.symm
def Is88 (l:List UInt8) (e:Ending):Prop:=∃ c ok,e=.returned (.tuple #[.int .u8 (c:UInt8).toNat,.bool ok])/\Unesc l c ok
theorem c163 (s:ByteArray) (w:World) (hs:s.size<=1048700):
 Calls prog 163 #[.string s] w fun e w'=>Is88 s.data.toList e/\w'=w:=by
 by_cases h3:s.size<3
 · have HU:Hid (Unesc s.data.toList 0 false):=by
    refine ⟨(fun h=>by cases h),fun _ d r hd e=>?_⟩
    have:=congrArg List.length e
    rw [qb_not hd] at this
    simp at this
    omega
   go_enter func163,ntmps163
   go_wp2
   go_ret2
   exact ⟨⟨0,false,rfl,HU.out⟩,rfl⟩
 have hz0:0<s.size:=by omega
 have hz1:1<s.size:=by omega
 have hz2:2<s.size:=by omega
 by_cases h92:s[0]=92
 rotate_left
 · have HU:Hid (Unesc s.data.toList 0 false):=unesc_no hz2 (.inl h92) 0
   have e0:((s[0].toNat:Int) !=92)=true:=by
    simp only [bne_iff_ne]
    intro e
    exact h92 (UInt8.toNat_inj.1 (by have:s[0].toNat=92:=by omega
                                     rw [this];rfl))
   clear h92
   go_enter func163,ntmps163
   go_wp2
   go_ret2
   exact ⟨⟨0,false,rfl,HU.out⟩,rfl⟩
 have e0:((s[0].toNat:Int) !=92)=false:=by rw [h92];rfl
 have H92:Hid (s[0]=92):=h92
 clear h92
 go_enter func163,ntmps163
 go_wp2_with fail
 refine (c183 _ _).mono ?_
 rintro e w' ⟨rfl,rfl⟩
 go_wp2_with fail
 refine (c183 _ _).mono ?_
 rintro e w' ⟨rfl,rfl⟩
 rcases hex_index s[1] with ⟨hi,hin⟩ | ⟨h,hh,hi,hin⟩
 · have HU:Hid (Unesc s.data.toList 0 false):=unesc_no hz2 (.inr (.inl hin)) 0
   clear hin
   rw [hi]
   go_wp2
   go_ret2
   exact ⟨⟨0,false,rfl,HU.out⟩,rfl⟩
 rw [hi]
 rcases hex_index s[2] with ⟨lo,lon⟩ | ⟨l,hl,lo,lon⟩
 · have HU:Hid (Unesc s.data.toList 0 false):=unesc_no hz2 (.inr (.inr lon)) 0
   clear hin lon
   rw [lo]
   go_wp2
   go_ret2
   exact ⟨⟨0,false,rfl,HU.out⟩,rfl⟩
 rw [lo]
 have ho:=or_form h l hh hl
 obtain ⟨p1,p2⟩:=ofNat_parts h l hh hl
 have HQ:Hid (plainB (UInt8.ofNat (16*h+l))=false->qb (UInt8.ofNat (16*h+l))=([92,s[1],s[2]]:List UInt8)):=fun hp=>by
  rw [qb_not hp,p1,p2,hin,lon]
 have HV:Hid (plainB (UInt8.ofNat (16*h+l))=true->∀ d r,plainB d=false->s.data.toList≠qb d++r):=fun hp d r hd e=>by
  obtain ⟨q,hq⟩:=list3_of s hz2
  rw [hq,qb_not hd] at e
  simp only [List.cons_append,List.nil_append,List.cons.injEq] at e
  have ld:=u8_lt d
  have e1:=hexL_eq (by omega) hh (e.2.1.symm.trans hin.symm)
  have e2:=hexL_eq (by omega) hl (e.2.2.1.symm.trans lon.symm)
  have e3:d=UInt8.ofNat (16*h+l):=UInt8.toNat_inj.1 (by have:=u8_lt (UInt8.ofNat (16*h+l));omega)
  rw [<- e3,hd] at hp
  cases hp
 clear hin lon p1 p2
 generalize UInt8.ofNat (16*h+l)=c at*
 go_wp2_with fail
 rw [ho]
 refine (c161 c _).mono ?_
 rintro e w' ⟨rfl,hw⟩
 obtain rfl:=hw.symm
 cases hp:plainB c
 · have HU:Hid (Unesc s.data.toList c true):=by
    refine ⟨fun _=>⟨hp,?_⟩,(fun h=>by cases h)⟩
    obtain ⟨q,hq⟩:=list3_of s hz2
    exact ⟨q,by rw [hq,HQ.out hp,H92.out];rfl⟩
   clear hp
   go_wp2
   go_ret2
   exact ⟨⟨c,true,ret_u8b rfl rfl,HU.out⟩,rfl⟩
 have HU:Hid (Unesc s.data.toList 0 false):=⟨(fun h=>by cases h),fun _=>HV.out hp⟩
 clear hp
 go_wp2
 go_ret2
 exact ⟨⟨0,false,rfl,HU.out⟩,rfl⟩
end Go.Proofs.YthfmmimmfcnhmaaGreatDoor
