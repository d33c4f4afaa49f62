import Derived.Test.YtdpoaadafcaffaaGreatDoorRA
import Derived.Test.YtdpoaadafcaffaaGreatDoorRF
set_option linter.unusedVariables false
set_option maxHeartbeats 8000000
namespace Go.Proofs.YtdpoaadafcaffaaGreatDoor
open Proofs.Tryz
open Go.RowKit
variable {a b:Int} {c:UInt8} {l q r t:List UInt8}
theorem Mx (c:UInt8):A8 c=true↔32<=c.toNat/\c.toNat<=126/\c.toNat≠34/\c.toNat≠92:=by
 unfold A8;simp only [Bool.and_eq_true,decide_eq_true_eq,Bool.not_eq_true',beq_eq_false_iff_ne];omega
theorem AB:∀ a b:Fin 16,H_.getD a.val 0=H_.getD b.val 0->a=b:=J3
theorem Nk {a b:Nat} (ha:a<16) (hb:b<16) (h:H_.getD a 0=H_.getD b 0):a=b:=by
 have:=AB ⟨a,ha⟩ ⟨b,hb⟩ h;exact Fin.mk.inj this
theorem Ri (c:UInt8):c.toNat<256:=c.toNat_lt
theorem X_ (h:A8 c=true):qb c=[c]:=by unfold qb;rw [if_pos h]
theorem Ga (h:A8 c=false):qb c=[92,H_.getD (c.toNat / 16) 0,H_.getD (c.toNat % 16) 0]:=by unfold qb;rw [if_neg (by simp [h])]
theorem Km:A8 92=false:=J3
theorem Bv (c:UInt8):qb c≠[]:=by
 cases h:A8 c
 · rw [Ga h];simp
 rw [X_ h];simp
theorem xG {d:UInt8} (h:qb c++r=qb d++q):c=d/\r=q:=by
 cases hc:A8 c <;> cases hd:A8 d
 · rw [Ga hc,Ga hd] at h
   simp only [List.cons_append,List.nil_append,List.cons.injEq,true_and] at h;obtain ⟨h1,h2,h3⟩:=h;have lc:=Ri c;have ld:=Ri d;have e1:=Nk O0 O0 h1;have e2:=Nk O0 O0 h2;exact ⟨UInt8.toNat_inj.1 O0,h3⟩
 · rw [Ga hc,X_ hd] at h
   simp only [List.cons_append,List.nil_append,List.cons.injEq] at h;rw [<- h.1,Km] at hd;cases hd
 · rw [X_ hc,Ga hd] at h
   simp only [List.cons_append,List.nil_append,List.cons.injEq] at h;rw [h.1,Km] at hc;cases hc
 rw [X_ hc,X_ hd] at h;simpa using h
theorem Oq {R:List UInt8} (h:t.flatMap qb++R=l.flatMap qb):∃ r,R=r.flatMap qb/\l=t++r:=by
 induction t generalizing l with
 | nil=>exact ⟨l,by simpa using h,rfl⟩
 | cons c t ih=>
  cases l with
  | nil=>
   have:=Bv c;simp at h;exact absurd h.1 this
  | cons d l=>
   simp only [List.flatMap_cons,List.append_assoc] at h;obtain ⟨rfl,h2⟩:=xG h;obtain ⟨r,hr,hl⟩:=ih h2;exact ⟨r,hr,by rw [hl];rfl⟩
theorem OB (h:t.flatMap qb=l.flatMap qb):t=l:=by
 obtain ⟨r,hr,hl⟩:=Oq (t:=t) (l:=l) (R:=[]) (by simpa using h)
 cases r with
 | nil=>simpa using hl.symm
 | cons c r=>
  have:=Bv c;simp at hr;exact absurd hr.1 this
theorem Re (h:J4 t=J4 l):t=l:=by
 unfold J4 at h;simp only [List.cons.injEq,true_and,List.append_cancel_right_eq] at h;exact OB h
theorem DC (l:List UInt8):l.length<=(l.flatMap qb).length:=by
 induction l with
 | nil=>simp
 | cons c l ih=>
  have:1<=(qb c).length:=List.length_pos_iff.2 (Bv c);simp only [List.flatMap_cons,List.length_append,List.length_cons];omega
theorem Gi (l:List UInt8):l.length+2<=(J4 l).length:=by
 have:=DC l;unfold J4;simp only [List.length_cons,List.length_append,List.length_nil];omega
theorem jo:∀ a:Fin 16,H_.getD a.val 0≠10/\H_.getD a.val 0≠32:=J3
theorem bE (c:UInt8):(10:UInt8)∉qb c:=by
 cases h:A8 c
 · rw [Ga h]
   have lc:=Ri c;have h1:=(jo ⟨c.toNat / 16,O0⟩).1;have h2:=(jo ⟨c.toNat % 16,O0⟩).1;simp only [List.mem_cons,List.not_mem_nil,or_false,not_or];exact ⟨J3,fun e=>h1 e.symm,fun e=>h2 e.symm⟩
 rw [X_ h];have:=(Mx c).1 h;simp only [List.mem_cons,List.not_mem_nil,or_false];intro e;rw [<- e] at this;simp at this
theorem Ml (l:List UInt8):(10:UInt8)∉J4 l:=by
 unfold J4;simp only [List.mem_cons,List.mem_append,List.mem_flatMap,List.not_mem_nil,or_false,not_or];refine ⟨J3,fun ⟨c,_,h⟩=>bE c h,J3⟩
def hx (b:UInt8):Int:=if 48<=(b.toNat:Int)/\(b.toNat:Int)<=57 then (b.toNat:Int) - 48 else if 97<=(b.toNat:Int)/\(b.toNat:Int)<=102 then (b.toNat:Int) - 97+10 else -1
theorem bF (h:a=b):Ending.returned (.int .i64 a)=.returned (.int .i64 b):=by rw [h]
theorem c152 (c:UInt8) (w:World):
 Calls prog 152 #[.int .u8 c.toNat] w fun e w'=>e=.returned (.int .i64 (hx c))/\w'=w:=by
 have hc:=Ri c;have HX:Hid (hx c=if 48<=(c.toNat:Int)/\(c.toNat:Int)<=57 then (c.toNat:Int) - 48 else if 97<=(c.toNat:Int)/\(c.toNat:Int)<=102 then (c.toNat:Int) - 97+10 else -1):=rfl;generalize (c.toNat:Int)=n at*;go_enter func152,ntmps152;go_wp2
 all_goals go_ret
 all_goals refine ⟨bF ?_,rfl⟩
 all_goals rw [HX.out]
 all_goals (repeat' split)
 all_goals omega
theorem Tn (b:UInt8):(Lib.indexByte H_ b=-1/\∀ n,n<16->H_.getD n 0≠b)\/∃ n:Nat,n<16/\Lib.indexByte H_ b=n/\H_.getD n 0=b:=by
 have hge:=Lib.indexByte_ge H_ b;by_cases h:Lib.indexByte H_ b=-1
 · refine .inl ⟨h,fun n hn e=>Lib.indexByte_none h n ?_⟩
   have hl:n<H_.length:=hn;rw [<- e];simp [List.getD,List.getElem?_eq_getElem hl]
 obtain ⟨o,ho⟩:∃ o:Nat,Lib.indexByte H_ b=o:=⟨(Lib.indexByte H_ b).toNat,O0⟩;obtain ⟨h1,_⟩:=Lib.indexByte_some ho;have hl:o<H_.length:=by
  rcases Nat.lt_or_ge o H_.length with h | h
  · exact h
  rw [List.getElem?_eq_none h] at h1;cases h1
 exact .inr ⟨o,hl,ho,by simp [List.getD,h1]⟩
theorem c193 (b:UInt8) (w:World):
 Calls prog 193 #[.string ⟨#[48,49,50,51,52,53,54,55,56,57,97,98,99,100,101,102]⟩,.int .u8 b.toNat] w fun e w'=>e=.returned (.int .i64 (Lib.indexByte H_ b))/\w'=w:=by
 refine (Tryz.strings_IndexByte _ _ w).mono ?_;rintro e w' ⟨rfl,rfl⟩;refine ⟨bF ?_,rfl⟩;have e1:(b.toNat:Int).toNat.toUInt8=b:=U0;rw [e1];rfl
theorem tC {x y:Bool} (h:a=b) (h':x=y):Ending.returned (.tuple #[.int .u8 a,.bool x])=.returned (.tuple #[.int .u8 b,.bool y]):=by rw [h,h']
def Cq (l:List UInt8) (c:UInt8) (ok:Bool):Prop:=(ok=true->A8 c=false/\∃ r,l=qb c++r)/\(ok=false->∀ d r,A8 d=false->l≠qb d++r)
theorem az:∀ h l:Fin 16,bits BinOp.or IntKind.i64 (((h.val:Nat):Int)*16) ((l.val:Nat):Int)=16*((h.val:Nat):Int)+((l.val:Nat):Int):=by decide +kernel
theorem uE (h l:Nat) (hh:h<16) (hl:l<16):bits BinOp.or IntKind.i64 ((h:Int)*16) (l:Int) % 256=((UInt8.ofNat (16*h+l)).toNat:Int):=by
 have:=az ⟨h,hh⟩ ⟨l,hl⟩;simp only at this;rw [this];simp
theorem Gq (h l:Nat) (hh:h<16) (hl:l<16):(UInt8.ofNat (16*h+l)).toNat / 16=h/\(UInt8.ofNat (16*h+l)).toNat % 16=l:=by
 have e:(UInt8.ofNat (16*h+l)).toNat=16*h+l:=X3;rw [e];omega
theorem zm (s:ByteArray) (h:2<s.size):∃ r,s.data.toList=s[0]::s[1]::s[2]::r:=by
 have hl:s.data.toList.length=s.size:=U0;have g:∀ (k:Nat) (hk:k<s.size),s.data.toList[k]'(by simpa using hk)=s[k]:=fun k hk=>by simp [ByteArray.getElem_eq_getElem_data]
 rcases hd:s.data.toList with _ | ⟨a,_ | ⟨b,_ | ⟨c,r⟩⟩⟩
 · rw [hd] at hl;simp at hl;omega
 · rw [hd] at hl;simp at hl;omega
 · rw [hd] at hl;simp at hl;omega
 have g0:=g 0 O0;have g1:=g 1 O0;have g2:=g 2 h;simp only [hd,List.getElem_cons_zero,List.getElem_cons_succ] at g0 g1 g2;exact ⟨r,by rw [<- g0,<- g1,<- g2]⟩
theorem dm {s:ByteArray} (h:2<s.size) (hn:s[0]≠92\/(∀ n,n<16->H_.getD n 0≠s[1])\/(∀ n,n<16->H_.getD n 0≠s[2])) (c:UInt8):Cq s.data.toList c false:=by
 refine ⟨(fun h=>by cases h),fun _ d r hd e=>?_⟩;obtain ⟨q,hq⟩:=zm s h;rw [hq,Ga hd] at e;simp only [List.cons_append,List.nil_append,List.cons.injEq] at e;have ld:=Ri d;rcases hn with hn | hn | hn
 · exact hn e.1
 · exact hn _ O0 e.2.1.symm
 exact hn _ O0 e.2.2.1.symm
def CJ (l:List UInt8) (e:Ending):Prop:=∃ c ok,e=.returned (.tuple #[.int .u8 (c:UInt8).toNat,.bool ok])/\Cq l c ok
theorem c173 (s:ByteArray) (w:World) (hs:s.size<=1048700):
 Calls prog 173 #[.string s] w fun e w'=>CJ s.data.toList e/\w'=w:=by
 by_cases h3:s.size<3
 · have HU:Hid (Cq s.data.toList 0 false):=by
    refine ⟨(fun h=>by cases h),fun _ d r hd e=>?_⟩;have:=congrArg List.length e;rw [Ga hd] at this;simp at this;omega
   go_enter func173,ntmps173;go_wp2;go_ret2;exact ⟨⟨0,false,rfl,HU.out⟩,rfl⟩
 have hz0:0<s.size:=O0;have hz1:1<s.size:=O0;have hz2:2<s.size:=O0;by_cases uP:s[0]=92;rotate_left
 · have HU:=Q0 (dm hz2 (.inl uP) 0)
   have e0:((s[0].toNat:Int) !=92)=true:=by
    simp only [bne_iff_ne];intro e;exact uP (UInt8.toNat_inj.1 (by have:s[0].toNat=92:=O0;rw [this];rfl))
   clear uP;go_enter func173,ntmps173;go_wp2;go_ret2;exact ⟨⟨0,false,rfl,HU.out⟩,rfl⟩
 have e0:((s[0].toNat:Int) !=92)=false:=by rw [uP];rfl
 have H92:=Q0 uP;clear uP;go_enter func173,ntmps173
 go_wp2_with fail
 refine (c193 _ _).mono ?_;rintro e w' ⟨rfl,rfl⟩
 go_wp2_with fail
 refine (c193 _ _).mono ?_;rintro e w' ⟨rfl,rfl⟩;rcases Tn s[1] with ⟨hi,hin⟩ | ⟨h,hh,hi,hin⟩
 · have HU:=Q0 (dm hz2 (.inr (.inl hin)) 0)
   clear hin;rw [hi];go_wp2;go_ret2;exact ⟨⟨0,false,rfl,HU.out⟩,rfl⟩
 rw [hi];rcases Tn s[2] with ⟨lo,jZ⟩ | ⟨l,hl,lo,jZ⟩
 · have HU:=Q0 (dm hz2 (.inr (.inr jZ)) 0)
   clear hin jZ;rw [lo];go_wp2;go_ret2;exact ⟨⟨0,false,rfl,HU.out⟩,rfl⟩
 rw [lo];have ho:=uE h l hh hl;obtain ⟨p1,p2⟩:=Gq h l hh hl;have HQ:Hid (A8 (UInt8.ofNat (16*h+l))=false->qb (UInt8.ofNat (16*h+l))=([92,s[1],s[2]]:List UInt8)):=fun hp=>by
  rw [Ga hp,p1,p2,hin,jZ]
 have HV:Hid (A8 (UInt8.ofNat (16*h+l))=true->∀ d r,A8 d=false->s.data.toList≠qb d++r):=fun hp d r hd e=>by
  obtain ⟨q,hq⟩:=zm s hz2;rw [hq,Ga hd] at e;simp only [List.cons_append,List.nil_append,List.cons.injEq] at e;have ld:=Ri d;have e1:=Nk O0 hh (e.2.1.symm.trans hin.symm);have e2:=Nk O0 hl (e.2.2.1.symm.trans jZ.symm);have e3:d=UInt8.ofNat (16*h+l):=UInt8.toNat_inj.1 (by have:=Ri (UInt8.ofNat (16*h+l));omega);rw [<- e3,hd] at hp;cases hp
 clear hin jZ p1 p2;generalize UInt8.ofNat (16*h+l)=c at*
 go_wp2_with fail
 rw [ho];refine (c171 c _).mono ?_;rintro e w' ⟨rfl,hw⟩;obtain rfl:=hw.symm;cases hp:A8 c
 · have HU:Hid (Cq s.data.toList c true):=by
    refine ⟨fun _=>⟨hp,?_⟩,(fun h=>by cases h)⟩;obtain ⟨q,hq⟩:=zm s hz2;exact ⟨q,by rw [hq,HQ.out hp,H92.out];rfl⟩
   clear hp;go_wp2;go_ret2;exact ⟨⟨c,true,tC rfl rfl,HU.out⟩,rfl⟩
 have HU:Hid (Cq s.data.toList 0 false):=⟨(fun h=>by cases h),fun _=>HV.out hp⟩;clear hp;go_wp2;go_ret2;exact ⟨⟨0,false,rfl,HU.out⟩,rfl⟩
end Go.Proofs.YtdpoaadafcaffaaGreatDoor
namespace Go.Proofs.YtdpoaadafcaffaaGreatDoor
open Go.RowKit
def body (x:I3):List UInt8:=word x.op++Qg x++zh x
theorem R8 (x:I3):R7 x=body x++[10]:=rfl
theorem Eu:∀ i:Fin 12,(32:UInt8)∉word ((i.val:Nat):Int)/\(10:UInt8)∉word ((i.val:Nat):Int):=J3
theorem n_ (op:Int):(32:UInt8)∉word op/\(10:UInt8)∉word op:=by
 by_cases h:1<=op/\op<=11
 · obtain ⟨n,rfl⟩:=Int.eq_ofNat_of_zero_le (show 0<=op by omega)
   exact Eu ⟨n,O0⟩
 rw [Sl op h];simp
theorem Ww:∀ i j:Fin 12,1<=i.val->1<=j.val->word ((i.val:Nat):Int)=word ((j.val:Nat):Int)->i=j:=J3
theorem word_inj {a b:Int} (ha:1<=a/\a<=11) (hb:1<=b/\b<=11) (h:word a=word b):a=b:=by
 obtain ⟨n,rfl⟩:=Int.eq_ofNat_of_zero_le (show 0<=a by omega);obtain ⟨m,rfl⟩:=Int.eq_ofNat_of_zero_le (show 0<=b by omega);have:=Ww ⟨n,O0⟩ ⟨m,O0⟩ (by show 1<=n;omega) (by show 1<=m;omega) h;have:=Fin.mk.inj this;rw [this]
theorem Qp (n:Nat):dec (n:Int)=Lib.decDigits n:=by
 induction n using Nat.strongRecOn with
 | _ n ih=>
  by_cases h:n<10
  · rw [dec_lt _ O0,Tc n h,show (48+(n:Int)).toNat=48+n by omega]
  rw [Ui _ O0,Kk n h,show (n:Int) / 10=((n / 10:Nat):Int) by omega,ih (n / 10) O0,show (48+(n:Int) % 10).toNat=48+n % 10 by omega]
theorem OH (n:Nat) (h:n<10):E9 (UInt8.ofNat (48+n))=true/\((UInt8.ofNat (48+n)).toNat:Int) - 48=n:=by
 have e:(UInt8.ofNat (48+n)).toNat=48+n:=X3;rw [J_,e];omega
theorem Ah (n:Nat):(Lib.decDigits n).all E9=true/\val (Lib.decDigits n)=n:=by
 induction n using Nat.strongRecOn with
 | _ n ih=>
  by_cases h:n<10
  · rw [Tc n h]
    obtain ⟨h1,h2⟩:=OH n h;refine ⟨by rw [List.all_cons,h1];rfl,?_⟩;have:=G_ [] (UInt8.ofNat (48+n));rw [List.nil_append] at this;rw [this,h2];simp [val]
  obtain ⟨h1,h2⟩:=OH (n % 10) O0;obtain ⟨i1,i2⟩:=ih (n / 10) O0;rw [Kk n h,List.all_append,i1,G_,i2,h2];refine ⟨by rw [List.all_cons,h1];rfl,O0⟩
theorem Ib (n:Nat):(32:UInt8)∉Lib.decDigits n/\(10:UInt8)∉Lib.decDigits n:=by
 have:=(Ah n).1;rw [List.all_eq_true] at this;constructor
 · intro h;have:=this _ h;revert this;decide
 intro h;have:=this _ h;revert this;decide
theorem Nj (n:Nat) (h:n<=40):Q7 (Lib.decDigits n)=true:=by
 obtain ⟨h1,h2⟩:=Ah n;refine Wo ?_ h1 (by rw [h2];omega);have:=(Uq (n+1) (n:Int) O0 O0).1
 rwa [Qp] at this
theorem Qs {l:List UInt8} (h:Q7 l=true):0<=val l/\val l<=40/\l=Lib.decDigits (val l).toNat:=by
 simp only [Q7,Bool.and_eq_true,decide_eq_true_eq] at h;obtain ⟨⟨h1,h2⟩,h3⟩:=h;have h0:=Vg l h2;refine ⟨h0,h3,?_⟩;have h4:=(Rp l h2 h1).1;have e:val l=((val l).toNat:Int):=O0;rw [<- Qp,<- e,h4]
theorem Gr (n:Nat) (h:n<=40):n29 (Lib.decDigits n)=n:=by
 have aW:=Nj n h;obtain ⟨h1,h2⟩:=Ah n;have hl:=Da n O0;have hne:Lib.decDigits n≠[]:=by rw [<- Qp];exact aB _
 rw [jl ⟨List.length_pos_iff.2 hne,O0⟩ h1 (by rw [h2,Qp]),h2]
def ah (l:List UInt8) (x:I3) (ok:Bool):Prop:=(ok=true->Aa x=true/\l=body x)/\(ok=false->∀ y,Aa y=true->l≠body y)
theorem Jg {y:I3} (_hy:Aa y=true):U1 (body y)=word y.op:=by
 have hw:=(n_ y.op).1;unfold body;cases hO:Y6 y.op <;> cases hX:N7 y.op
 · rw [Qg,zh,hO,hX];simp;exact (Fe hw).1
 · rw [Qg,zh,hO,hX];simp;exact (K5 hw).1
 · rw [Qg,zh,hO,hX];simp;exact (K5 hw).1
 rw [Qg,zh,hO,hX];simp;exact (K5 hw).1
theorem Sd {l:List UInt8} {y:I3} {op:Int} (hy:Aa y=true) (h:l=body y) (ho:1<=op/\op<=11) (hw:word op=U1 l):y.op=op:=by
 rw [h,Jg hy] at hw;exact (word_inj ho (A9 hy).1 hw).symm
theorem Yn {l:List UInt8} (h:∀ op:Nat,1<=op->op<=11->word op≠U1 l) (y:I3) (hy:Aa y=true):l≠body y:=by
 intro e;obtain ⟨h1,_⟩:=A9 hy;obtain ⟨n,hn⟩:=Int.eq_ofNat_of_zero_le (show 0<=y.op by omega);apply h n O0 O0;rw [e,Jg hy,hn]
theorem kJ:(⟨#[]⟩:ByteArray).toList.isEmpty=true:=by rw [ByteArray.toList_eq];rfl
theorem Db (l:List UInt8) (x:I3) (h:∀ y,Aa y=true->l≠body y):ah l x false:=⟨(fun h=>by cases h),fun _=>h⟩
section
variable {l:List UInt8} {op:Nat} (h1:1<=op) (h2:op<=11) (hw:word op=U1 l)
include h1 h2 hw
theorem Vw (hO:Y6 op=false) (hX:N7 op=false):(l=U1 l->ah l ⟨op,⟨#[]⟩,0⟩ true)/\(l≠U1 l->∀ y,Aa y=true->l≠body y):=by
 constructor
 · intro e
   refine ⟨fun _=>⟨Em ⟨by show (1:Int)<=op;omega,by show (op:Int)<=11;omega⟩ (.inr rfl) (.inr kJ) (Int.le_refl _) (by show (0:Int)<=40;omega) (by show ((0:Nat):Int)<=300;omega),?_⟩,fun h=>by cases h⟩;unfold body;rw [Qg,zh];simp only [hO,hX,Bool.false_eq_true,if_false,List.append_nil];rw [hw];exact e
 intro hne y hy e;have ho:=Sd hy e ⟨O0,O0⟩ hw;apply hne;rw [<- hw,<- ho];rw [e];unfold body;rw [Qg,zh,ho,hO,hX];simp
theorem Im (hu:Y6 op=true\/N7 op=true) (hn:(32:UInt8)∉l) (y:I3) (hy:Aa y=true):l≠body y:=by
 intro e;have ho:=Sd hy e ⟨O0,O0⟩ hw;apply hn;rw [e];unfold body;rw [Qg,zh,ho];rcases hu with hu | hu
 · rw [hu];simp
 rw [hu];cases Y6 (op:Int) <;> simp
theorem Zx (hO:Y6 op=true) (hX:N7 op=false) (hm:(32:UInt8)∈l):ah l ⟨op,⟨#[]⟩,Ud (Z0 l)⟩ (Q7 (Z0 l)):=by
 obtain ⟨hp,_⟩:=Y8 hm;constructor
 · intro hn
   obtain ⟨n0,n40,nd⟩:=Qs hn;rw [ku hn];refine ⟨Em ⟨by show (1:Int)<=op;omega,by show (op:Int)<=11;omega⟩ (.inl hO) (.inr kJ) n0 n40 (by show ((0:Nat):Int)<=300;omega),?_⟩;unfold body;rw [Qg,zh];simp only [hO,hX,if_true,Bool.false_eq_true,if_false,List.append_nil];rw [<- nd,hw];exact hp
 intro hn y hy e;have ho:=Sd hy e ⟨O0,O0⟩ hw;obtain ⟨_,_,_,y0,y40,_⟩:=A9 hy;have:Z0 l=Lib.decDigits y.to.toNat:=by
  rw [e];unfold body;rw [Qg,zh,ho,hO,hX];simp only [if_true,Bool.false_eq_true,if_false,List.append_nil];exact (K5 (n_ _).1).2
 rw [this,Nj _ O0] at hn;cases hn
theorem Xw (hO:Y6 op=false) (hX:N7 op=true) (hm:(32:UInt8)∈l) (KL:l.length<=300) {t:List UInt8} {ok:Bool} (hu:(ok=true->Z0 l=J4 t)/\(ok=false->∀ q,Z0 l≠J4 q)):ah l ⟨op,K3 t,0⟩ ok:=by
 obtain ⟨hp,_⟩:=Y8 hm;constructor
 · intro hk
   have hq:=hu.1 hk;have hlen:t.length<=300:=by
    have:=Gi t;have h3:=congrArg List.length hp;rw [hq] at h3;simp only [List.length_append,List.length_cons] at h3;omega
   refine ⟨Em ⟨by show (1:Int)<=op;omega,by show (op:Int)<=11;omega⟩ (.inr rfl) (.inl hX) (Int.le_refl _) (by show (0:Int)<=40;omega) (by show ((K3 t).size:Int)<=300;rw [Y2];omega),?_⟩;unfold body;rw [Qg,zh];simp only [hO,hX,if_true,Bool.false_eq_true,if_false,List.append_nil];have:(K3 t).data.toList=t:=rfl;rw [this,<- hq,hw];exact hp
 intro hk y hy e;have ho:=Sd hy e ⟨O0,O0⟩ hw;apply hu.2 hk y.tx.data.toList;rw [e];unfold body;rw [Qg,zh,ho,hO,hX];simp only [if_true,Bool.false_eq_true,if_false,List.append_nil];exact (K5 (n_ _).1).2
theorem ry (hO:Y6 op=true) (hX:N7 op=true) (hn:(32:UInt8)∉Z0 l) (y:I3) (hy:Aa y=true):l≠body y:=by
 intro e;have ho:=Sd hy e ⟨O0,O0⟩ hw;apply hn;rw [e];unfold body;rw [Qg,zh,ho,hO,hX];simp only [if_true,List.append_assoc,List.cons_append];rw [(K5 (n_ _).1).2];simp
theorem Ey (hO:Y6 op=true) (hX:N7 op=true) (hm:(32:UInt8)∈l) (hm2:(32:UInt8)∈Z0 l) (KL:l.length<=300) (hn:Q7 (U1 (Z0 l))=true) {t:List UInt8} {ok:Bool} (hu:(ok=true->Z0 (Z0 l)=J4 t)/\(ok=false->∀ q,Z0 (Z0 l)≠J4 q)):ah l ⟨op,K3 t,Ud (U1 (Z0 l))⟩ ok:=by
 obtain ⟨hp,_⟩:=Y8 hm;obtain ⟨hp2,_⟩:=Y8 hm2;obtain ⟨n0,n40,nd⟩:=Qs hn;rw [ku hn];constructor
 · intro hk
   have hq:=hu.1 hk;have hlen:t.length<=300:=by
    have:=Gi t;have h3:=congrArg List.length hp;have h4:=congrArg List.length hp2;rw [hq] at h4;simp only [List.length_append,List.length_cons] at h3 h4;omega
   refine ⟨Em ⟨by show (1:Int)<=op;omega,by show (op:Int)<=11;omega⟩ (.inl hO) (.inl hX) n0 n40 (by show ((K3 t).size:Int)<=300;rw [Y2];omega),?_⟩;unfold body;rw [Qg,zh];simp only [hO,hX,if_true,List.append_assoc,List.cons_append];have:(K3 t).data.toList=t:=rfl;rw [this,<- hq,<- nd,hw,<- hp2];exact hp
 intro hk y hy e;have ho:=Sd hy e ⟨O0,O0⟩ hw;apply hu.2 hk y.tx.data.toList;rw [e];unfold body;rw [Qg,zh,ho,hO,hX];simp only [if_true,List.append_assoc,List.cons_append];rw [(K5 (n_ _).1).2,(K5 (Ib _).1).2]
theorem Qx (hO:Y6 op=true) (hX:N7 op=true) (hn:Q7 (U1 (Z0 l))=false) (y:I3) (hy:Aa y=true):l≠body y:=by
 intro e;have ho:=Sd hy e ⟨O0,O0⟩ hw;obtain ⟨_,_,_,y0,y40,_⟩:=A9 hy;have:U1 (Z0 l)=Lib.decDigits y.to.toNat:=by
  rw [e];unfold body;rw [Qg,zh,ho,hO,hX];simp only [if_true,List.append_assoc,List.cons_append];rw [(K5 (n_ _).1).2,(K5 (Ib _).1).1]
 rw [this,Nj _ O0] at hn;cases hn
end
end Go.Proofs.YtdpoaadafcaffaaGreatDoor
namespace Go.Proofs.YtdpoaadafcaffaaGreatDoor
open Go.RowKit
variable {R a l q r:List UInt8} {x y:I3} {is js:List I3}
theorem N_ (x:I3):(10:UInt8)∉body x:=by
 unfold body;simp only [List.mem_append,not_or];refine ⟨⟨(n_ _).2,?_⟩,?_⟩
 · unfold Qg;split
   · simp only [List.mem_cons,not_or];exact ⟨J3,(Ib _).2⟩
   simp
 unfold zh;split
 · simp only [List.mem_cons,not_or];exact ⟨J3,Ml _⟩
 simp
theorem Dt {a b:Nat} (h:Lib.decDigits a=Lib.decDigits b):a=b:=by
 have h1:=(Ah a).2;have h2:=(Ah b).2;rw [h] at h1;omega
theorem qm {a b:ByteArray} (ha:a.toList.isEmpty=true) (hb:b.toList.isEmpty=true):a=b:=by
 apply Gj;rw [ByteArray.toList_eq] at ha hb;rw [List.isEmpty_iff] at ha hb;rw [ha,hb]
theorem xm (hx:Aa x=true) (hy:Aa y=true) (h:body x=body y):x=y:=by
 obtain ⟨x1,x2,x3,x4,x5,x6⟩:=A9 hx;obtain ⟨y1,y2,y3,y4,y5,y6⟩:=A9 hy;have ho:=word_inj x1 y1 (by rw [<- Jg hx,<- Jg hy,h]);obtain ⟨op,tx,to⟩:=x;obtain ⟨op',XT,to'⟩:=y;simp only at ho;subst ho;simp only at x2 x3 x4 x5 x6 y2 y3 y4 y5 y6;unfold body Qg zh at h;simp only [List.append_assoc,List.append_cancel_left_eq] at h;cases hO:Y6 op <;> cases hX:N7 op
 · simp only [hO,Bool.false_eq_true,false_or] at x2 y2
   simp only [hX,Bool.false_eq_true,false_or] at x3 y3;rw [x2,y2,qm x3 y3]
 · simp only [hO,Bool.false_eq_true,false_or] at x2 y2
   simp only [hO,hX,Bool.false_eq_true,if_false,if_true,List.nil_append,List.cons.injEq,true_and] at h;rw [x2,y2,Gj (Re h)]
 · simp only [hX,Bool.false_eq_true,false_or] at x3 y3
   simp only [hO,hX,Bool.false_eq_true,if_false,if_true,List.append_nil,List.cons.injEq,true_and] at h;have:=Dt h;rw [qm x3 y3,show to=to' by omega]
 simp only [hO,hX,if_true,List.cons_append,List.cons.injEq,true_and] at h;have h1:=(K5 (r:=J4 tx.data.toList) (Ib to.toNat).1);have h2:=(K5 (r:=J4 XT.data.toList) (Ib to'.toNat).1);rw [h] at h1;have e1:=Dt (h1.1.symm.trans h2.1);have e2:=Re (h1.2.symm.trans h2.2);rw [Gj e2,show to=to' by omega]
theorem Sm (hx:Aa x=true) (hy:Aa y=true) (h:R7 x++r=R7 y++q):x=y/\r=q:=by
 rw [R8,R8,List.append_assoc,List.append_assoc] at h;obtain ⟨h1,h2⟩:=ul (N_ x) (N_ y) h;exact ⟨xm hx hy h1,h2⟩
theorem mf (x:I3):R7 x≠[]:=by rw [R8];simp
theorem He (hi:is.all Aa=true) (hj:js.all Aa=true) (h:is.flatMap R7++R=js.flatMap R7):∃ r,R=r.flatMap R7/\js=is++r:=by
 induction is generalizing js with
 | nil=>exact ⟨js,by simpa using h,rfl⟩
 | cons x is ih=>
  simp only [List.all_cons,Bool.and_eq_true] at hi
  cases js with
  | nil=>
   have:=mf x;simp at h;exact absurd h.1 this
  | cons y js=>
   simp only [List.all_cons,Bool.and_eq_true] at hj;simp only [List.flatMap_cons,List.append_assoc] at h;obtain ⟨rfl,h2⟩:=Sm hi.1 hj.1 h;obtain ⟨r,hr,hl⟩:=ih hi.2 hj.2 h2;exact ⟨r,hr,by rw [hl];rfl⟩
theorem Ce (hi:is.all Aa=true) (hj:js.all Aa=true) (h:is.flatMap R7=js.flatMap R7):is=js:=by
 obtain ⟨r,hr,hl⟩:=He (R:=[]) hi hj (by simpa using h)
 cases r with
 | nil=>simpa using hl.symm
 | cons y r=>
  have:=mf y;simp at hr;exact absurd hr.1 this
theorem ug (is:List I3):is.length<=(is.flatMap R7).length:=by
 induction is with
 | nil=>simp
 | cons x r ih=>
  have:1<=(R7 x).length:=List.length_pos_iff.2 (mf x);simp only [List.flatMap_cons,List.length_append,List.length_cons];omega
def p_ (l:List UInt8) (is:List I3) (ok:Bool):Prop:=(ok=true->Yb is=true/\is.flatMap R7=l/\l.length<=300)/\(ok=false->is=[]/\∀ js,Yb js=true->js.flatMap R7=l->300<l.length)
theorem Cu {a b:Bool} (h:p_ l is a) (k:p_ l js b):is=js/\a=b:=by
 cases a <;> cases b
 · exact ⟨(h.2 rfl).1.trans (k.2 rfl).1.symm,rfl⟩
 · obtain ⟨k1,k2,k3⟩:=k.1 rfl
   have:=(h.2 rfl).2 js k1 k2;omega
 · obtain ⟨k1,k2,k3⟩:=h.1 rfl
   have:=(k.2 rfl).2 is k1 k2;omega
 obtain ⟨k1,k2,k3⟩:=k.1 rfl;obtain ⟨h1,h2,h3⟩:=h.1 rfl;exact ⟨Ce (Kb h1).2 (Kb k1).2 (h2.trans k2.symm),rfl⟩
def Way (l:List UInt8) (is:List I3) (r:List UInt8):Prop:=l=is.flatMap R7++r/\is.all Aa=true
theorem sj (l:List UInt8):Way l [] l:=⟨rfl,rfl⟩
theorem Ll (h:Way l is (a++10::r)) (hx:Aa x=true/\a=body x):Way l (is++[x]) r:=by
 refine ⟨?_,by rw [List.all_append,h.2];simp [hx.1]⟩;rw [h.1,List.flatMap_append,hx.2];simp [R8]
theorem Ig (h:Way l is r) (hr:r≠[]) (hn:∀ y q,Aa y=true->r≠body y++10::q):p_ l [] false:=by
 refine ⟨(fun h=>by cases h),fun _=>⟨rfl,fun js hj e=>?_⟩⟩;exfalso;obtain ⟨q,hq,hl⟩:=He h.2 (Kb hj).2 (h.1.symm.trans e.symm)
 cases q with
 | nil=>exact hr hq
 | cons y q=>
  have hy:Aa y=true:=by
   have:=(Kb hj).2;rw [hl,List.all_append,List.all_cons] at this;simp only [Bool.and_eq_true] at this;exact this.2.1
  apply hn y (q.flatMap R7) hy;rw [hq,List.flatMap_cons,R8,List.append_assoc];rfl
theorem zo (h:Way l is []) (KL:l.length<=300):(Yb is=true->p_ l is true)/\(Yb is=false->p_ l [] false):=by
 have e:l=is.flatMap R7:=by simpa using h.1
 refine ⟨fun hk=>⟨fun _=>⟨hk,e.symm,KL⟩,(fun h=>by cases h)⟩,fun hk=>⟨(fun h=>by cases h),fun _=>⟨rfl,fun js hj ej=>?_⟩⟩⟩;have:=Ce (Kb hj).2 h.2 (ej.trans e);rw [this,hk] at hj;cases hj
theorem Be (h:300<l.length):p_ l [] false:=⟨(fun h=>by cases h),fun _=>⟨rfl,fun _ _ _=>h⟩⟩
theorem vo (h:Way l is r):is.length+r.length<=l.length/\∀ i,(is.getD i K9).tx.size<=300:=by
 have h1:=ug is;have h2:=congrArg List.length h.1;rw [List.length_append] at h2;refine ⟨O0,Uj fun i hi=>?_⟩;have:=(A9 (Dl h.2 hi)).2.2.2.2.2;omega
def D5 (is:List I3):List Value:=is.flatMap fun x=>[.int .i64 x.op,.string x.tx,.int .i64 x.to]
theorem m_ (is:List I3) (x:I3):D5 (is++[x])=D5 is++[.int .i64 x.op,.string x.tx,.int .i64 x.to]:=by simp [D5]
theorem uf (is:List I3) (i:Nat) (h:i<is.length):(D5 is)[i*3]?=some (.int .i64 (is.getD i K9).op)/\(D5 is)[i*3+1]?=some (.string (is.getD i K9).tx)/\(D5 is)[i*3+2]?=some (.int .i64 (is.getD i K9).to):=by
 induction is generalizing i with
 | nil=>simp at h
 | cons x r ih=>
  cases i with
  | zero=>exact ⟨rfl,rfl,rfl⟩
  | succ i=>
   have:=ih i (by simpa using h);have e:∀ j,(D5 (x::r))[(i+1)*3+j]?=(D5 r)[i*3+j]?:=fun j=>by
    show ([Value.int .i64 x.op,.string x.tx,.int .i64 x.to]++D5 r)[(i+1)*3+j]?=_;rw [List.getElem?_append_right X3]
    congr 1
    simp;omega
   have e0:=e 0;simp only [Nat.add_zero] at e0;rw [e0,e 1,e 2];exact this
theorem U6 {w:World} {base:Nat} {v:Value} (h:w.ownsRow base 121 3 v is.length (D5 is)):∃ a cap,v=.slice a is.length cap/\t_ w a is:=by
 have h':=h;rcases h.2 with ⟨hv,h0⟩ | ⟨g,cap,cur,hv,hg,hh,_⟩
 · exact ⟨none,0,by rw [hv,h0],.inl (List.length_eq_zero_iff.1 h0)⟩
 refine ⟨some ⟨g,0,none⟩,cap,hv,?_⟩;subst hv;refine .inr ⟨g,0,rfl,F4 hh,fun i hi=>?_⟩;obtain ⟨e0,e1,e2⟩:=uf is i hi;rw [Nat.zero_add,h'.cellAt _ O0,h'.cellAt _ O0,h'.cellAt _ O0];exact ⟨e0,e1,e2⟩
end Go.Proofs.YtdpoaadafcaffaaGreatDoor
