import Derived.Test.YtkccjgajimjjdaaGreatDoorB4
import Derived.Lib.IndexLaws
import Derived.Deep.QuietTactic
import Derived.BigQuiet
set_option linter.unusedVariables false
set_option maxHeartbeats 8000000
set_option maxRecDepth 100000
namespace Go.Proofs.YtkccjgajimjjdaaGreatDoor
open Proofs.Tryz Go.RowKit
variable{l t:List UInt8}{c d:Int}{w w':World}{s:BY}{p:Addr}{B:Nat}{a:OA}{ss:LB}
def vr(c:Int)(l:List UInt8):Bool:=
 if c=0\/c=1 then decide (l.length<=300) else if c=2 then qf l else if c=3 then l.isEmpty else if c=4\/c=5\/c=7 then X6 l else false
theorem KO(h:qf l=true):l.length<=2:=by
 simp only[qf,Ia,rf]at h;exact Dx l h.1.2 h.1.1 h.2
theorem IE(h:300<l.length):vr c l=false:=by
 have h1:decide (l.length<=300)=false:=by simp only[ru];omega
 have h2:qf l=false:=by
  by_cases h2:qf l=true
  ·have:=KO h2;omega
  simpa using h2
 have d:l.isEmpty=false:=by cases l with|nil=>simp at h|cons a r=>rfl
 have b:X6 l=false:=by
  unfold X6;have:decide (1<=l.length/\l.length<=20)=false:=by simp only[ru];omega
  rw[this];rfl
 unfold vr;rw[h1,h2,d,b];split<;>(try rfl)
 split<;>(try rfl)
 split<;>(try rfl)
 split<;>rfl
theorem c203(c:Int)(s:BY)(w:World)(g:s.size<=1048700):
 Calls prog 203 #[.agg #[.int .i64 c,.string s]] w λe w'=>e=.returned (.bool (vr c s.data.toList))/\Bw w w':=by
 have b:s.data.toList.length=s.size:=E5;by_cases a:c=0\/c=1
 ·have hV:Hid (vr c s.data.toList=decide ((s.size:Int)<=300)):=by unfold vr;rw[if_pos a,b];simp[Hid];omega
  clear b;rcases a with rfl|rfl
  all_goals
   go_in
   go_wp2;go_ret;exact⟨b_ (by rw[hV.out]),Y6⟩
 by_cases h2:c=2
 ·subst h2;have hV:Hid (vr 2 s.data.toList=qf s.data.toList):=rfl;clear b a
  go_in
  go_wp2_with fail
  refine(a5v _ _ g).mono ?_;rintro e w1⟨rfl,rfl⟩;go_wp2;go_ret;exact⟨b_ (by rw[hV.out]),Y6⟩
 by_cases d:c=3
 ·subst d;have hV:Hid (vr 3 s.data.toList=s.toList.isEmpty):=by rw[ByteArray.toList_eq];rfl
  clear b a h2
  go_in
  go_wp2;go_ret;exact⟨b_ (by rw[hV.out]),Y6⟩
 by_cases f:c=4\/c=5\/c=7
 ·have hV:Hid (vr c s.data.toList=X6 s.data.toList):=by unfold vr;rw[if_neg a,if_neg h2,if_neg d,if_pos f];rfl
  clear b a h2 d;rcases f with rfl|rfl|rfl
  all_goals
   go_in
   go_wp2_with fail
   refine(c148 _ _ g).mono ?_;rintro e w1⟨rfl,rfl⟩;go_wp2;go_ret;exact⟨b_ (by rw[hV.out]),Y6⟩
 have hV:Hid (vr c s.data.toList=false):=by unfold vr;rw[if_neg a,if_neg h2,if_neg d,if_neg f];rfl
 have e0:(c==0)=false:=Q8;have e1:(c==1)=false:=Q8;have e2:(c==2)=false:=Q8;have e3:(c==3)=false:=Q8;have e4:(c==4)=false:=Q8;have e5:(c==5)=false:=Q8;have e7:(c==7)=false:=Q8;clear b a h2 d f
 go_in
 go_wp2;go_ret;exact⟨b_ (by rw[hV.out]),Y6⟩
theorem zQ(c:Int)(s:BY)(w:World)(g:s.size<=1048700):
 Calls prog 120 #[.agg #[.int .i64 c,.string s]] w λe w'=>e=.returned (.bool (vr c s.data.toList))/\Bw w w':=by
 have b:s.data.toList.length=s.size:=E5;by_cases a6i:300<s.size
 ·have hV:Hid (vr c s.data.toList=false):=IE O0;clear b
  go_in
  go_wp2;go_ret;exact⟨b_ (by rw[hV.out]),Y6⟩
 by_cases a:c=0\/c=1
 ·have hV:Hid (vr c s.data.toList=true):=by unfold vr;rw[if_pos a,b];simp[Hid];omega
  clear b;rcases a with rfl|rfl
  all_goals
   go_in
   go_wp2;go_ret;exact⟨b_ (by rw[hV.out]),Y6⟩
 by_cases h2:c=2
 ·subst h2;have hV:Hid (vr 2 s.data.toList=qf s.data.toList):=rfl;clear b a
  go_in
  go_wp2_with fail
  refine(a0S _ _ g).mono ?_;rintro e w1⟨rfl,h⟩
  go_wp2_with fail
  refine(c59 _ _ _ _).mono ?_;rintro e w2⟨rfl,rfl⟩;go_wp2;go_ret;refine⟨b_ (by rw[hV.out];rw[<- qO];simp),Y6.trans (h.mono E5)⟩
 by_cases d:c=3
 ·subst d;have hV:Hid (vr 3 s.data.toList=s.toList.isEmpty):=by rw[ByteArray.toList_eq];rfl
  clear b a h2
  go_in
  go_wp2;go_ret;exact⟨b_ (by rw[hV.out]),Y6⟩
 by_cases f:c=4\/c=5\/c=7
 ·have hV:Hid (vr c s.data.toList=X6 s.data.toList):=by unfold vr;rw[if_neg a,if_neg h2,if_neg d,if_pos f];rfl
  clear b a h2 d;rcases f with rfl|rfl|rfl
  all_goals
   go_in
   go_wp2_with fail
   refine(VO _ _ g).mono ?_;rintro e w1⟨rfl,rfl⟩;go_wp2;go_ret;exact⟨b_ (by rw[hV.out]),Y6⟩
 have hV:Hid (vr c s.data.toList=false):=by unfold vr;rw[if_neg a,if_neg h2,if_neg d,if_neg f];rfl
 have e0:(c==0)=false:=Q8;have e1:(c==1)=false:=Q8;have e2:(c==2)=false:=Q8;have e3:(c==3)=false:=Q8;have e4:(c==4)=false:=Q8;have e5:(c==5)=false:=Q8;have e7:(c==7)=false:=Q8;clear b a h2 d f
 go_in
 go_wp2;go_ret;exact⟨b_ (by rw[hV.out]),Y6⟩
def Em(l:List UInt8):Bool:=Ic l&&l.all B_&&decide (val l<=7)
def DI(l:List UInt8):Int:=if Em l=true then val l else 0
theorem EM(h:Ic l=false):Em l=false:=by simp[Em,h]
theorem YP(h:l.all B_=false):Em l=false:=by simp only[Em,h,Pv,OI]
theorem a0s(k:Nat)(h:7<val (l.take k)):Em l=false:=by
 by_cases ha:l.all B_=true
 ·have:=Aq l ha k;have hd:decide (val l<=7)=false:=by simp only[ru];omega
  simp only[Em,hd,Pv]
 exact YP (by simpa using ha)
theorem a0E(h1:Ic l=true)(h2:l.all B_=true)(a:val l<=7):Em l=true:=by
 have hd:decide (val l<=7)=true:=by simpa using a
 simp only[Em,h1,h2,hd,YJ]
theorem QE(h:Em l=false):DI l=0:=by simp[DI,h]
theorem MF(h:Em l=true):DI l=val l:=by simp[DI,h]
theorem a1L(s:BY)(w:World)(hs:s.size<=1048700):
 Calls prog 223 #[.string s,.int .i64 7] w λe w'=>e=.returned (.tuple #[.int .i64 (DI s.data.toList),.bool (Em s.data.toList)])/\w'=w:=by
 by_cases h0:s.size=0
 ·have e0:s.toList=[]:=by
   rw[ByteArray.toList_eq];exact Qb.1 (by simpa using h0)
  have a:Hid (Em s.data.toList=false):=EM (by rw[<- ByteArray.toList_eq,e0];rfl)
  go_in
  go_wp2;go_ret2;exact⟨Yb (QE a.out).symm a.out.symm,rfl⟩
 have e0:s.toList.isEmpty=false:=by rw[ByteArray.toList_eq];exact jq s O0
 have e1:¬s.toList=[]:=λh=>by rw[h]at e0;cases e0
 have p:0<s.size:=O0;have d:=Lr s p;by_cases hl:Ic s.data.toList=true
 ·have t:=U0 hl;have hc:(s[0].toNat=48/\s.toList=[48])\/((s[0].toNat:Int)==48)=false:=by
   by_cases h48:s[0].toNat=48
   ·refine .inl ⟨h48,?_⟩;have h1:s[0]=48:=Wi.1 h48;rw[ByteArray.toList_eq];exact((Uh _).1 hl).2 (by rw[d];exact h1)
   exact .inr Q8
  clear hl d;rcases hc with⟨h48,hz⟩|h48
  all_goals
   go_in
   go_wp2;go_loop[6,21] (λn i=>∃k:Nat,k<=s.size/\i=.int .i64 k/\n=.int .i64 (val (s.data.toList.take k))/\0<=val (s.data.toList.take k)/\val (s.data.toList.take k)<=7/\Hid ((s.data.toList.take k).all B_=true)) (λ_ i=>s.size-(RowKit.intOf i).toNat);exact⟨0,J4 _,rfl,rfl,by simp[val],by simp[val],rfl⟩;obtain⟨k,hk,rfl,rfl,hv0,o,ha⟩:=hrel;by_cases f:k<s.size
   ·by_cases b:B_ s[k]=true
    ·have g:=(Ye _).1 b;have hw:=xq _ g;have r:=U0 (Fe _ s k f ha.out b);have c:Hid (val (s.data.toList.take (k+1))=val (s.data.toList.take k)*10+((s[k].toNat:Int)-48)):=by
      rw[take_snoc s k f];exact Df _ _
     clear b;by_cases q:7<val (s.data.toList.take k)*10+((s[k].toNat:Int)-48)
     ·have a:=U0 (a0s (k+1) (by rw[c.out];exact q));go_wp2;go_ret2;exact⟨Yb (QE a.out).symm a.out.symm,rfl⟩
     go_wp2
     go_round
     exact⟨k+1,O0,by go_num,by rw[c.out],by rw[c.out];omega,by rw[c.out];omega,r⟩;exact Z9
    have a:=U0 (YP (Hf _ s k f (by simpa using b)));have g:(s[k].toNat:Int)<48\/57<(s[k].toNat:Int):=by
     rcases Oo (s[k].toNat:Int) 48 with h|h
     ·exact .inl h
     rcases Oo 57 (s[k].toNat:Int)with l|l
     ·exact .inr l
     exact absurd ((Ye _).2 ⟨h,l⟩) b
    clear b;rcases g with b|b
    all_goals
     go_wp2
     all_goals go_ret2
     all_goals exact⟨Yb (QE a.out).symm a.out.symm,rfl⟩
   have m:=Ie _ s k O0 ha.out;have j:s.data.toList.take k=s.data.toList:=C_ Q8;have a:=U0 (a0E t.out m (by rw[<- j];exact o));have u:=U0 j;clear m j;go_wp2;go_ret2;exact⟨Yb (by rw[MF a.out,u.out]) a.out.symm,rfl⟩
 have a:=U0 (EM (by simpa using hl));have h48:s[0].toNat=48/\¬s.toList=[48]:=by
  rw[ByteArray.toList_eq]at e1 ⊢;rw[Uh,d]at hl;by_cases h1:s[0]=48
  ·refine⟨by rw[h1];rfl,λhz=>hl ⟨e1,λ_=>hz⟩⟩
  exact absurd ⟨e1,λh=>absurd h h1⟩ hl
 obtain⟨h48,hz⟩:=h48;have hz':(!s.toList==[48])=true:=by simpa using hz
 clear d hl
 go_in
 go_wp2;go_ret2;exact⟨Yb (QE a.out).symm a.out.symm,rfl⟩
theorem a0a(l:List UInt8):((Lib.cut l [58]).2.2=true/\l=(Lib.cut l [58]).1++58::(Lib.cut l [58]).2.1/\(58:UInt8)∉(Lib.cut l [58]).1)\/((Lib.cut l [58]).2.2=false/\(Lib.cut l [58]).1=l/\(58:UInt8)∉l):=by
 unfold Lib.cut;rw[Lib.index_one];have hge:=Lib.indexByte_ge l 58;by_cases h:Lib.indexByte l 58=-1
 ·rw[h,Y7 O0];refine .inr ⟨rfl,rfl,λhm=>?_⟩;obtain⟨k,a,e⟩:=Ze hm;exact Lib.indexByte_none h k (by rw[L9 a,e])
 obtain⟨o,ho⟩:∃o:Nat,Lib.indexByte l 58=o:=⟨(Lib.indexByte l 58).toNat,O0⟩;obtain⟨h1,h2⟩:=Lib.indexByte_some ho;have hl:o<l.length:=by
  rcases D8 o l.length with h|h
  ·exact h
  rw[Zb h]at h1;cases h1
 rw[ho,L8 O0];refine .inl ⟨rfl,?_,λhm=>?_⟩
 ·simp only[wB,Oj];have hx:l[o]=58:=by rw[L9 hl]at h1;exact I_ h1
  conv=>lhs;rw[<- um o l,YA hl,hx]
 simp only[wB]at hm;obtain⟨k,a,e⟩:=Ze hm;rw[U_]at a;rw[lF]at e;exact h2 k O0 (by rw[L9 O0,e])
def Jc(w:World):Prop:=5<w.heap.size/\∃m,w.cell? ⟨5,0,none⟩=some (.int .i64 m)
theorem Q9(h:Jc w)(a:Bw w w'):Jc w':=by
 obtain⟨h1,m,hm⟩:=h;exact⟨U9 h1 a.size,m,by rw[a.cell (by exact h1)];exact hm⟩
theorem below_drewN(n:Nat):Bw w (w.drewN n):=⟨rfl,rfl,rfl,J8 _,λ_ _=>rfl⟩
theorem QR(l:List UInt8)(w:World)(hs:l.length<=1048700)(hm:Jc w):
 Calls prog 222 #[.string (I4 l),.string ⟨#[58]⟩] w λe w'=>e=.returned (.tuple #[.string (I4 (Lib.cut l [58]).1),.string (I4 (Lib.cut l [58]).2.1),.bool (Lib.cut l [58]).2.2])/\Bw w w':=by
 obtain⟨_,m,hm⟩:=hm;refine(Tryz.strings_Cut (I4 l) ⟨#[58]⟩ m w (by rw[P5];omega) hm).mono ?_;rintro e w'⟨rfl,n,rfl⟩;exact⟨rfl,below_drewN n⟩
def g_(c:Int)(l:List UInt8):List UInt8:=if vr c l=true then UInt8.ofNat (48+c).toNat::58::l else []
theorem Xh(h:vr c l=true):c=0\/c=1\/c=2\/c=3\/c=4\/c=5\/c=7:=by
 unfold vr at h;by_cases h1:c=0\/c=1
 ·omega
 rw[Y7 h1]at h;by_cases h2:c=2
 ·omega
 rw[Y7 h2]at h;by_cases b:c=3
 ·omega
 rw[Y7 b]at h;by_cases a:c=4\/c=5\/c=7
 ·omega
 rw[Y7 a]at h;cases h
theorem TK(h:vr c s.data.toList=false):Ending.returned (.string (⟨#[]⟩:BY))=.returned (.string (I4 (g_ c s.data.toList))):=by
 unfold g_;rw[h];rfl
theorem MH(h:vr c s.data.toList=true):I4 (g_ c s.data.toList)=I4 [UInt8.ofNat (48+c).toNat]++⟨#[58]⟩++s:=by
 unfold g_;rw[if_pos h];apply ByteArray.ext;simp[I4]
theorem past{v:Value}(a:p.block<w.heap.size)(h:w.cell? p=some v)(o:Obj):(w.alloc o).cell? p=some v:=by
 rw[((G5 w.heap.size w).alloc X7 o).cell a];exact h
theorem ET(c:Int)(s:BY)(w:World)(d:s.size<=1048700):
 Calls prog 179 #[.agg #[.int .i64 c,.string s]] w λe w'=>e=.returned (.string (I4 (g_ c s.data.toList)))/\Bw w w':=by
 go_in
 go_wp2_with fail
 refine(zQ _ _ _ d).mono ?_;rintro e w1⟨rfl,a⟩;have b:=((G5 w.heap.size w).alloc X7 (.cells #[vI c,vS s] 72)).trans (a.mono E5);have hz1:w.heap.size+1<=w1.heap.size:=by have:=a.size;simp at this;omega
 have g10:w1.cell? (aW w 0)=some (vI c):=by rw[a.cell E5];simp
 have g:w1.cell? (aW w 1)=some (vS s):=by rw[a.cell E5];simp
 cases hv:vr c s.data.toList
 ·have hF:=TK hv;go_wp2;go_ret;exact⟨hF,b⟩
 have hc:=Xh hv;have hF:=U0 (MH hv);have hcv:=SL;have hcd:=ZU;have hz:∀y,(strOfNums [y]).size=1:=λy=>strOfNums_size [y];clear hv;have h0:0<=c:=O0;have h7:c<=7:=O0;have f:Hid (strOfNums [48+c]=I4 [UInt8.ofNat (48+c).toNat]):=by
  rcases hc with rfl|rfl|rfl|rfl|rfl|rfl|rfl<;>rfl
 clear hc;have g12:=past Q8 g;go_wp2;go_ret;exact⟨by rw[hF.out,<- f.out];rfl,by first|exact b.alloc O0 _|exact(b.alloc O0 _).drew⟩
theorem VE(hc:c=0\/c=1\/c=2\/c=3\/c=4\/c=5\/c=7)(hd:0<=d/\d<=9)(h:UInt8.ofNat (48+c).toNat=UInt8.ofNat (48+d).toNat):c=d:=by
 have a:=l7 UInt8.toNat h;simp only[eF]at a;omega
def pF(l:List UInt8)(c:Int)(t:List UInt8)(ok:Bool):Prop:=
 (ok=true->vr c t=true/\l=UInt8.ofNat (48+c).toNat::58::t)/\(ok=false->(c=0/\t=[])/\∀c' t',vr c' t'=true->l≠UInt8.ofNat (48+c').toNat::58::t')
theorem LW(h:vr c t=true):0<=c/\c<=9:=by have:=Xh h;omega
theorem XL{u:List UInt8}{a b:Bool}(h:pF l c t a)(k:pF l d u b):c=d/\t=u/\a=b:=by
 cases a<;>cases b
 ·obtain⟨⟨rfl,rfl⟩,_⟩:=h.2 rfl;obtain⟨⟨rfl,rfl⟩,_⟩:=k.2 rfl;exact⟨rfl,rfl,rfl⟩
 ·obtain⟨_,f⟩:=h.2 rfl;obtain⟨h1,h2⟩:=k.1 rfl;exact absurd h2 (f _ _ h1)
 ·obtain⟨_,f⟩:=k.2 rfl;obtain⟨h1,h2⟩:=h.1 rfl;exact absurd h2 (f _ _ h1)
 obtain⟨h1,h2⟩:=h.1 rfl;obtain⟨g,e⟩:=k.1 rfl;rw[h2]at e;simp only[Xi,Rz]at e;exact⟨VE (Xh h1) (LW g) e.1,e.2,rfl⟩
theorem JB(h:∀b a,vr b a=true->l≠UInt8.ofNat (48+b).toNat::58::a):pF l 0 [] false:=⟨(λh=>by cases h),λ_=>⟨⟨rfl,rfl⟩,h⟩⟩
theorem JK(h:Em l=true):0<=val l/\val l<=7/\l=[UInt8.ofNat (48+val l).toNat]:=by
 simp only[Em,Ia,rf]at h;obtain⟨⟨h1,h2⟩,a⟩:=h;have h0:=Tm l h2;refine⟨h0,a,?_⟩;have hd:=(Qy l h2 h1).1;rw[dec_lt _ O0]at hd;exact hd.symm
theorem pU(h:c=0\/c=1\/c=2\/c=3\/c=4\/c=5\/c=7):Em [UInt8.ofNat (48+c).toNat]=true:=by
 rcases h with rfl|rfl|rfl|rfl|rfl|rfl|rfl<;>decide
theorem BN(h:c=0\/c=1\/c=2\/c=3\/c=4\/c=5\/c=7):(58:UInt8)∉[UInt8.ofNat (48+c).toNat]:=by
 rcases h with rfl|rfl|rfl|rfl|rfl|rfl|rfl<;>decide
theorem UW{a b r q:List UInt8}(ha:(58:UInt8)∉a)(c:(58:UInt8)∉b)(h:a++58::r=b++58::q):a=b/\r=q:=by
 induction a generalizing b with
 | nil=>
  cases b with
  | nil=>exact⟨rfl,by simpa using h⟩
  | cons x b=>simp at h;exact absurd (by rw[h.1];simp) c
 | cons x a ih=>
  cases b with
  | nil=>simp at h;exact absurd (by rw[h.1];simp) ha
  | cons y b=>
   simp only[Zf,Xi]at h;obtain⟨rfl,h⟩:=h;obtain⟨rfl,rfl⟩:=ih (λm=>ha (Og _ m)) (λm=>c (Og _ m)) h;exact⟨rfl,rfl⟩
theorem ZR:((Lib.cut l [58]).2.2=true->Em (Lib.cut l [58]).1=true->vr (DI (Lib.cut l [58]).1) (Lib.cut l [58]).2.1=true->pF l (DI (Lib.cut l [58]).1) (Lib.cut l [58]).2.1 true)/\(¬((Lib.cut l [58]).2.2=true/\Em (Lib.cut l [58]).1=true/\vr (DI (Lib.cut l [58]).1) (Lib.cut l [58]).2.1=true)->pF l 0 [] false):=by
 have hcut:=a0a l;generalize (Lib.cut l [58]).1=a at hcut ⊢;generalize (Lib.cut l [58]).2.1=t at hcut ⊢;generalize (Lib.cut l [58]).2.2=k at hcut ⊢;rcases hcut with⟨rfl,rfl,f⟩|⟨rfl,rfl,f⟩
 ·refine⟨λ_ c hv=>⟨λ_=>⟨hv,?_⟩,(λh=>by cases h)⟩,λh=>JB λg i d e=>?_⟩
  ·obtain⟨_,_,h⟩:=JK c;rw[MF c]
   conv=>lhs;rw[h]
   rfl
  obtain⟨rfl,rfl⟩:=UW (b:=[UInt8.ofNat (48+g).toNat]) f (BN (Xh d)) e;have c:=pU (Xh d);obtain⟨h0,h1,hl⟩:=JK c;have hc:=VE (Xh d) ⟨h0,O0⟩ (by simpa using hl);refine h ⟨rfl,c,?_⟩;rw[MF c,<- hc];exact d
 refine⟨(λh=>by cases h),λ_=>JB λg i d e=>f ?_⟩;rw[e];simp
theorem aP(h:l.length<2):pF l 0 [] false:=JB λc' t' _ e=>by rw[e]at h;simp at h;omega
theorem SN(h:((l.headD 0).toNat:Int)<48\/57<((l.headD 0).toNat:Int)):pF l 0 [] false:=JB λc' t' hv e=>by
 rw[e]at h;simp only[vJ]at h;have:=Xh hv;rw[eF]at h;omega
theorem TP{x:UInt8}(h2:2<=l.length)(hx:l.headD 0=x)(hc:(x.toNat:Int)=48+c)(h0:0<=c/\c<=9):
 (g_ c (l.drop 2)=l->pF l c (l.drop 2) true)/\(g_ c (l.drop 2)≠l->pF l 0 [] false):=by
 constructor
 ·intro h;unfold g_ at h;by_cases hv:vr c (l.drop 2)=true
  ·rw[L8 hv]at h;exact⟨λ_=>⟨hv,h.symm⟩,(λh=>by cases h)⟩
  rw[Y7 hv]at h;rw[<- h]at h2;simp at h2
 intro h;refine JB λa t' hv e=>h ?_;rw[e]at hx ⊢;simp only[vJ]at hx;have:a=c:=VE (Xh hv) h0 (by
  rw[hx];apply Wi.1;rw[eF];have:=x.toNat_lt;omega)
 subst this;simp only[List.drop_succ_cons,OE];unfold g_;rw[L8 hv]
def iP(l:List UInt8)(e:Ending):Prop:=∃(c:Int)(t:List UInt8)(ok:Bool),e=.returned (.tuple #[.agg #[.int .i64 c,.string (I4 t)],.bool ok])/\pF l c t ok/\t.length<=l.length
theorem Dq(l:List UInt8):(I4 l).data.toList=l:=by simp[I4]
theorem Dp(s:BY):I4 s.data.toList=s:=by apply Xf;simp[I4]
theorem cut_small(l:List UInt8):(Lib.cut l [58]).1.length<=l.length/\(Lib.cut l [58]).2.1.length<=l.length:=by
 unfold Lib.cut;split
 ·simp only[U_,jk];omega
 simp
theorem Pe{j k:Nat}(h:j≠k):(⟨B,j,none⟩:Addr)≠⟨B,k,none⟩:=λe=>h (by cases e;rfl)
theorem rz2{u:World}(a:Below (w.heap.size+1) (w.alloc (.cells #[.int .i64 0,.string ⟨#[]⟩] 72)) u):
 (u.cell? ⟨w.heap.size,0,none⟩=some (.int .i64 0)/\u.cell? ⟨w.heap.size,1,none⟩=some (.string ⟨#[]⟩))/\u.frozen? ⟨w.heap.size,0,none⟩=false/\u.frozen? ⟨w.heap.size,1,none⟩=false:=by
 have c:∀j,u.cell? (aW w j)=(w.alloc (.cells #[vO,vE] 72)).cell? (aW w j):=λj=>a.cell E5;have f:∀j,u.frozen? (aW w j)=(w.alloc (.cells #[vO,vE] 72)).frozen? (aW w j):=λj=>a.frozen E5;rw[c,c,f,f];simp
theorem XG(a:p.block<w.heap.size)(h:w.frozen? p=false)(o:Obj):(w.alloc o).frozen? p=false:=by
 rw[((G5 w.heap.size w).alloc X7 o).frozen a];exact h
theorem Pn(u:World)(B:Nat)(a v1 x0 x1:Value)(h0:u.cell? ⟨B,0,none⟩=some x0)(h1:u.cell? ⟨B,1,none⟩=some x1):
 ((u.setCell ⟨B,0,none⟩ a).setCell ⟨B,1,none⟩ v1).cell? ⟨B,0,none⟩=some a/\((u.setCell ⟨B,0,none⟩ a).setCell ⟨B,1,none⟩ v1).cell? ⟨B,1,none⟩=some v1:=by
 have a1:(u.setCell (aA B 0) a).cell? (aA B 1)=some x1:=by rw[Xb _ _ _ _ (Pe O0)];exact h1
 refine⟨?_,Pg _ _ _ a1⟩;rw[Xb _ _ _ _ (Pe O0)];exact Pg _ _ _ h0
theorem c183(l:List UInt8)(w:World)(J:l.length<=1048700)(hm:Jc w):
 Calls prog 183 #[.string (I4 l)] w λe w'=>iP l e/\Bw w w':=by
 have q:=cut_small l;have m:=@ZR l;have x:Bw w (w.alloc (.cells #[vO,vE] 72)):=(G5 w.heap.size w).alloc X7 _;have r:=QR l _ J (Q9 hm x);generalize ha:(Lib.cut l [58]).1=a at q m r;generalize ht:(Lib.cut l [58]).2.1=t at q m r;generalize hk:(Lib.cut l [58]).2.2=k at q m r;have H:=a1L (I4 a);rw[Dq,P5]at H;have E:=λc=>c203 c (I4 t);rw[Dq,P5]at E;obtain⟨hca,K⟩:=q
 go_in
 go_wp2_with fail
 refine r.mono ?_;rintro e d⟨rfl,L⟩;have o:Below (w.heap.size+1) (w.alloc (.cells #[vO,vE] 72)) d:=YD L;have j:=x.trans (o.mono O0);have b:w.heap.size<d.heap.size:=by have:=o.size;simp at this;omega
 go_wp2_with fail
 refine(H _ O0).mono ?_;rintro e w'⟨rfl,I⟩;obtain rfl:=I.symm;obtain⟨⟨i,g⟩,B,A⟩:=rz2 o;have z0':=past (by exact b) i;have z1':=past (by exact b) g;have y0':=XG (by exact b) B;have y1':=XG (by exact b) A;have u:¬(k=true/\Em a=true/\vr (DI a) t=true)->Hid (iP l (.returned (.tuple #[.agg #[vO,vE],.bool false]))):=λh=>⟨0,[],false,rfl,m.2 h,J4 _⟩;cases hk:k
 ·have f:=u (by rw[hk];simp);go_wp2;have F:=Pn d w.heap.size vO vE _ _ i g;have z:=past (p:=(aW w 0)) (by simpa using b) F.1;have y:=past (p:=(aW w 1)) (by simpa using b) F.2;refine Q7 (v:=.tuple #[.agg #[vO,vE],.bool false]) (by simp[results,results183,go_sem,z,y]) rfl ⟨f,?_⟩
  first
   | exact((j.setCell E5 _).setCell E5 _).alloc (by simpa using j.size) _
   | exact((j.setCell E5 _).setCell E5 _)
 cases h7:Em a
 ·have f:=u (by rw[h7];simp);go_wp2;have F:=Pn d w.heap.size vO vE _ _ i g;have z:=past (p:=(aW w 0)) (by simpa using b) F.1;have y:=past (p:=(aW w 1)) (by simpa using b) F.2;refine Q7 (v:=.tuple #[.agg #[vO,vE],.bool false]) (by simp[results,results183,go_sem,z,y]) rfl ⟨f,?_⟩
  first
   | exact((j.setCell E5 _).setCell E5 _).alloc (by simpa using j.size) _
   | exact((j.setCell E5 _).setCell E5 _)
 go_wp2_with fail
 refine(E _ _ O0).mono ?_;rintro e n⟨rfl,s⟩;have C:=(o.alloc O0 (.cells #[vI (DI a),vS (I4 t)] 72)).trans (s.mono Q8);have D:=x.trans (C.mono O0);have hR3:d.heap.size<n.heap.size:=by have:=s.size;simp at this;omega
 have r0:n.cell? (aW d 0)=some (vI (DI a)):=by rw[s.cell E5];simp
 have r1:n.cell? (aW d 1)=some (vS (I4 t)):=by rw[s.cell E5];simp
 obtain⟨⟨i,g⟩,B,A⟩:=rz2 C;cases hv:vr (DI a) t
 ·have f:=u (by rw[hv];simp);go_wp2;refine Q7 (v:=.tuple #[.agg #[vO,vE],.bool false]) (by simp[results,results183,go_sem,i,g]) rfl ⟨f,?_⟩;exact((D.setCell E5 _).setCell E5 _)
 have f:Hid (iP l (.returned (.tuple #[.agg #[vI (DI a),vS (I4 t)],.bool true]))):=⟨DI a,t,true,rfl,m.1 hk h7 hv,K⟩;go_wp2;have F:=Pn n w.heap.size (vI (DI a)) (vS (I4 t)) _ _ i g;refine Q7 (v:=.tuple #[.agg #[vI (DI a),vS (I4 t)],.bool true]) (by simp[results,results183,go_sem,F.1,F.2]) rfl ⟨f,?_⟩;exact((D.setCell E5 _).setCell E5 _)
theorem drop2(s:BY):s.extract 2 s.size=I4 (s.data.toList.drop 2):=by
 apply Xf;apply Zl.1;simp[I4];exact C_ E5
theorem c218(s:BY)(w:World)(hs:s.size<=1048700):
 Calls prog 218 #[.string s] w λe w'=>iP s.data.toList e/\Bw w w':=by
 have p:s.data.toList.length=s.size:=E5;have j:Bw w (w.alloc (.cells #[vO,vE] 72)):=(G5 w.heap.size w).alloc X7 _;have a:pF s.data.toList 0 [] false->Hid (iP s.data.toList (.returned (.tuple #[.agg #[vO,vE],.bool false]))):=λh=>⟨0,[],false,rfl,h,J4 _⟩;by_cases h2:s.size<2
 ·have b:=a (aP O0);clear a p
  go_in
  go_wp2;refine Q7 (v:=.tuple #[.agg #[vO,vE],.bool false]) (by simp[results,results218,go_sem]) rfl ⟨b.out,j⟩
 have h0:0<s.size:=O0;have i:=Lr s h0;by_cases hd:(s[0].toNat:Int)<48\/57<(s[0].toNat:Int)
 ·have b:=a (SN (by rw[i];exact hd));clear a p i;rcases hd with hd|hd
  all_goals
   go_in
   go_wp2;refine Q7 (v:=.tuple #[.agg #[vO,vE],.bool false]) (by simp[results,results218,go_sem]) rfl ⟨b.out,j⟩
 have r:48<=(s[0].toNat:Int)/\(s[0].toNat:Int)<=57:=O0;have hw:=xq _ r;have g:=TP (l:=s.data.toList) (x:=s[0]) (c:=(s[0].toNat:Int)-48) O0 i O0 O0;have hx:=drop2 s;clear i hd;have q:(s.data.toList.drop 2).length<=s.data.toList.length:=E5;generalize hT:s.data.toList.drop 2=T at g hx q;clear hT;have k:=ET ((s[0].toNat:Int)-48) (I4 T);rw[Dq,P5]at k;generalize hL:s.data.toList=L at*;generalize hC:(s[0].toNat:Int)-48=C at*;obtain⟨d1,d2⟩:=r
 go_in
 go_wp2_with fail
 go_region
 all_goals
  go_wp2_with fail
  refine(k _ O0).mono ?_;rintro e d⟨rfl,f⟩;have hz3:w.heap.size+2<=d.heap.size:=by have:=f.size;simp at this;omega
  have o:Below (w.heap.size+1) (w.alloc (.cells #[vO,vE] 72)) d:=by
   refine Below.trans ?_ (f.mono E5)
   first|exact((G5 _ _).alloc E5 _).drew|exact(G5 _ _).alloc E5 _
  have t:=j.trans (o.mono O0);have r0:d.cell? (aA (w.heap.size+1) 0)=some (vI C):=by rw[f.cell E5];simp[go_sem]
  have r1:d.cell? (aA (w.heap.size+1) 1)=some (vS (I4 T)):=by rw[f.cell E5];simp[go_sem]
  obtain⟨⟨n,m⟩,y0,y1⟩:=rz2 o;clear f k;by_cases hf:g_ C T=L
  ·have b:Hid (iP L (.returned (.tuple #[.agg #[vI C,vS (I4 T)],.bool true]))):=⟨C,T,true,rfl,g.1 hf,q⟩;have e1:((I4 (g_ C T)).toList==s.toList)=true:=by rw[hf,ByteArray.toList_eq,ByteArray.toList_eq,Dq,hL];simp
   have u:(I4 (g_ C T)).toList=s.toList:=by simpa using e1
   clear a g hf;go_wp2;have F:=Pn d w.heap.size (vI C) (vS (I4 T)) _ _ n m;refine Q7 (v:=.tuple #[.agg #[vI C,vS (I4 T)],.bool true]) (by simp[results,results218,go_sem,F.1,F.2]) rfl ⟨b.out,?_⟩;exact((t.setCell E5 _).setCell E5 _)
  have b:=a (g.2 hf);have u:¬(I4 (g_ C T)).toList=s.toList:=by rw[ByteArray.toList_eq,ByteArray.toList_eq,Dq,hL];exact hf
  have e1:((I4 (g_ C T)).toList==s.toList)=false:=by simpa using u
  clear a g hf;go_wp2;have F:=Pn d w.heap.size vO vE _ _ n m;refine Q7 (v:=.tuple #[.agg #[vO,vE],.bool false]) (by simp[results,results218,go_sem,F.1,F.2]) rfl ⟨b.out,?_⟩;exact((t.setCell E5 _).setCell E5 _)
def Z7(w:World)(a:OA)(ss:LB):Prop:=
 ss=[]\/∃b off,a=some ⟨b,off,none⟩/\b<w.heap.size/\∀i,i<ss.length->w.cell? ⟨b,off+i,none⟩=some (.string (ss.getD i ByteArray.empty))
theorem info9:(prog.info? 9).map (λi=>(i.zero,i.size,i.bytes))=some (some (.string ⟨#[]⟩),1,16):=Y1
theorem La(h:Z7 w a ss):∃b off,(ss=[]\/(a=some ⟨b,off,none⟩/\b<w.heap.size/\∀i,i<ss.length->w.cell? ⟨b,off+i,none⟩=some (.string (ss.getD i ByteArray.empty)))):=by
 rcases h with h|⟨b,off,h⟩
 ·exact⟨0,0,.inl h⟩
 exact⟨b,off,.inr h⟩
theorem P6(h:Z7 w a ss)(c:Bw w w'):Z7 w' a ss:=by
 rcases h with h|⟨b,off,h1,h2,e⟩
 ·exact .inl h
 exact .inr ⟨b,off,h1,U9 h2 c.size,λi d=>by rw[c.cell (by exact h2)];exact e i d⟩
theorem dJ(h:∀i,i<ss.length->(ss.getD i ByteArray.empty).size<=B)(i:Nat):(ss.getD i ByteArray.empty).size<=B:=by
 rcases D8 i ss.length with a|a
 ·exact h i a
 have e:ss.getD i ByteArray.empty=ByteArray.empty:=by simp[List.getD,Zb a]
 rw[e];exact J4 _
theorem c15(a:OA)(cap:Nat)(ss:LB)(l:Int)(w:World)(h0:0<=l)(h1:l<=1048576)(m:∀i,(ss.getD i ByteArray.empty).size<=9223372036854775807)(hl:ss.length<=9223372036854775807)(j:Z7 w a ss):
 Calls prog 15 #[.slice a ss.length cap,.int .i64 l] w λe w'=>(∃r:Int,e=.returned (.int .i64 r)/\(0<=r->ss.length<=1048576/\(∀i,(ss.getD i ByteArray.empty).size<=1048576)/\r<=l-ss.length))/\w'=w:=by
 obtain⟨b,off,hc⟩:=La j;have p:=U0 hc;clear hc j;by_cases hbig:l<ss.length
 ·go_in
  go_wp2;go_ret;exact⟨⟨-1,rfl,λh=>O0⟩,rfl⟩
 go_in
 go_wp2;go_loop[1,5] (λq i=>∃(k:Nat)(r:Int),k<=ss.length/\i=.int .i64 k/\q=.int .i64 r/\0<=r/\r<=l-ss.length/\Hid (∀i,i<k->(ss.getD i ByteArray.empty).size<=1048576)) (λ_ i=>ss.length-(RowKit.intOf i).toNat);exact⟨0,_,J4 _,rfl,rfl,O0,O0,λi h=>absurd h (y9 _)⟩;obtain⟨k,r,hk,rfl,rfl,hr0,n,d⟩:=hrel;by_cases f:k<ss.length
 ·obtain⟨ha,hbw,g⟩:=Jd p.out f;subst ha;have g0:=g k f;have hxs:=m k;generalize hx:ss.getD k ByteArray.empty=x at*;have o:=U0 hx;clear hx g;by_cases hneg:r<x.size
  ·go_wp2;go_ret;exact⟨⟨-1,rfl,λh=>O0⟩,rfl⟩
  have c:Hid (∀i,i<k+1->(ss.getD i ByteArray.empty).size<=1048576):=by
   intro i h;rcases D8 i k with h1|h1
   ·exact d.out i h1
   obtain rfl:i=k:=O0;rw[o.out];omega
  go_wp2
  go_round
  exact⟨k+1,_,O0,by go_num,rfl,O0,O0,c⟩;exact Z9
 have c:=U0 (dJ (λi h=>d.out i O0));go_wp2;go_ret;exact⟨⟨r,rfl,λ_=>⟨O0,c.out,n⟩⟩,rfl⟩
theorem c37(a l:OA)(cap n:Nat)(ss:LB)(w:World)(hl:ss.length<=1048576)(j:Z7 w a ss)(h:Z7 w l ss):
 Calls prog 37 #[.slice a ss.length cap,.slice l ss.length n] w λe w'=>e=.returned (.bool true)/\Bw w w':=by
 obtain⟨b,off,hc⟩:=La j;have p:=U0 hc;clear hc j;obtain⟨b',off',g⟩:=La h;have o:=U0 g;clear g h
 go_in
 go_wp2;go_loopw[5] (λi wr=>∃(k nq:Nat),k<=ss.length/\i=.int .i64 k/\wr=w.drewN nq) (λi _=>ss.length-(RowKit.intOf i).toNat);exact⟨0,0,J4 _,rfl,rfl⟩;obtain⟨k,nq,hk,rfl,rfl⟩:=hrel;by_cases c:k<ss.length
 ·obtain⟨ha,hbw,f⟩:=Jd p.out c;obtain⟨m,a7f,d⟩:=Jd o.out c;subst ha;subst m;have g0:=f k c;have g1:=d k c;generalize ss.getD k ByteArray.empty=x at*;clear f d
  go_wp2_with fail
  go_quiet (fail)
  go_wp2;go_roundw;exact⟨k+1,_,O0,by go_num,rfl⟩;exact Z9
 go_wp2;go_ret;exact⟨rfl,below_drewN _⟩
