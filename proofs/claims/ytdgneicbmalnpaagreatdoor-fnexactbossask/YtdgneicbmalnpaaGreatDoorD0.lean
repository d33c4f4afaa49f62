import Derived.Test.YtdgneicbmalnpaaGreatDoorB4
import Derived.BigQuiet
set_option linter.all false
set_option maxHeartbeats 0
set_option maxRecDepth 99999
open Go.Value renaming slice->Sa,string->Sb,int->Sc,pointer->Sd
open Go.IntKind renaming i64->Se
open Go.Ending renaming returned->Sf
namespace Go.Proofs.YtdgneicbmalnpaaGreatDoor
open Proofs.Tryz Go.RowKit
variable{l t:List UInt8}{c d:Int}{w w':World}{s:BY}{p:Addr}{B:Nat}{a:OA}{ss:LB}
def vr(c:Int)(l:List UInt8):Bool:=
 if c=0\/c=1 then decide (l.length<=300) else if c=2 then Xe l else if c=3 then l.isEmpty else if c=4\/c=5\/c=7 then Y5 l else false
theorem oP(h:Xe l=true):l.length<=2:=by
 simp only[Xe,Fa,Pe]at h;exact Py l h.1.2 h.1.1 h.2
theorem rF(h:300<l.length):vr c l=false:=by
 have h1:decide (l.length<=300)=false:=by simp only[Xu];omega
 have h2:Xe l=false:=by
  by_cases h2:Xe l=true
  ·have:=oP h2;omega
  simpa using h2
 have d:l.isEmpty=false:=by cases l with|nil=>simp at h|cons a r=>rfl
 have b:Y5 l=false:=by
  unfold Y5;have:decide (1<=l.length/\l.length<=20)=false:=by simp only[Xu];omega
  rw[this];rfl
 unfold vr;rw[h1,h2,d,b];split<;>(try rfl)
 split<;>(try rfl)
 split<;>(try rfl)
 split<;>rfl
theorem c234(c:Int)(s:BY)(w:World)(hs:s.size<=1048700):
 Calls prog 234 #[.agg #[Sc Se c,Sb s]] w λe w'=>e=Sf (.bool (vr c s.data.toList))/\Bw w w':=by
 have b:s.data.toList.length=s.size:=J4;by_cases a:c=0\/c=1
 ·have hV:Hid (vr c s.data.toList=decide ((s.size:Int)<=300)):=by unfold vr;rw[if_pos a,b];simp[Hid];omega
  clear b;rcases a with rfl|rfl
  all_goals
   go_in
   go_wp2;go_ret;exact⟨Z9 (by rw[hV.o]),U6⟩
 by_cases h2:c=2
 ·subst h2;have hV:Hid (vr 2 s.data.toList=Xe s.data.toList):=rfl;clear b a
  go_in
  go_wp2_with fail
  refine(a6l _ _ hs).mono ?_;rintro e w1⟨rfl,rfl⟩;go_wp2;go_ret;exact⟨Z9 (by rw[hV.o]),U6⟩
 by_cases d:c=3
 ·subst d;have hV:Hid (vr 3 s.data.toList=s.toList.isEmpty):=by rw[ByteArray.toList_eq];rfl
  clear b a h2
  go_in
  go_wp2;go_ret;exact⟨Z9 (by rw[hV.o]),U6⟩
 by_cases f:c=4\/c=5\/c=7
 ·have hV:Hid (vr c s.data.toList=Y5 s.data.toList):=by unfold vr;rw[if_neg a,if_neg h2,if_neg d,if_pos f];rfl
  clear b a h2 d;rcases f with rfl|rfl|rfl
  all_goals
   go_in
   go_wp2_with fail
   refine(c80 _ _ hs).mono ?_;rintro e w1⟨rfl,rfl⟩;go_wp2;go_ret;exact⟨Z9 (by rw[hV.o]),U6⟩
 have hV:Hid (vr c s.data.toList=false):=by unfold vr;rw[if_neg a,if_neg h2,if_neg d,if_neg f];rfl
 have e0:(c==0)=false:=L8;have e1:(c==1)=false:=L8;have e2:(c==2)=false:=L8;have e3:(c==3)=false:=L8;have e4:(c==4)=false:=L8;have e5:(c==5)=false:=L8;have e7:(c==7)=false:=L8;clear b a h2 d f
 go_in
 go_wp2;go_ret;exact⟨Z9 (by rw[hV.o]),U6⟩
theorem IV(c:Int)(s:BY)(w:World)(hs:s.size<=1048700):
 Calls prog 113 #[.agg #[Sc Se c,Sb s]] w λe w'=>e=Sf (.bool (vr c s.data.toList))/\Bw w w':=by
 have b:s.data.toList.length=s.size:=J4;by_cases a7c:300<s.size
 ·have hV:Hid (vr c s.data.toList=false):=rF O0;clear b
  go_in
  go_wp2;go_ret;exact⟨Z9 (by rw[hV.o]),U6⟩
 by_cases a:c=0\/c=1
 ·have hV:Hid (vr c s.data.toList=true):=by unfold vr;rw[if_pos a,b];simp[Hid];omega
  clear b;rcases a with rfl|rfl
  all_goals
   go_in
   go_wp2;go_ret;exact⟨Z9 (by rw[hV.o]),U6⟩
 by_cases h2:c=2
 ·subst h2;have hV:Hid (vr 2 s.data.toList=Xe s.data.toList):=rfl;clear b a
  go_in
  go_wp2_with fail
  refine(c148 _ _ hs).mono ?_;rintro e w1⟨rfl,g⟩
  go_wp2_with fail
  refine(ZK _ _ _ _).mono ?_;rintro e w2⟨rfl,rfl⟩;go_wp2;go_ret;refine⟨Z9 (by rw[hV.o];rw[<- rP];simp),U6.trans (g.mono J4)⟩
 by_cases d:c=3
 ·subst d;have hV:Hid (vr 3 s.data.toList=s.toList.isEmpty):=by rw[ByteArray.toList_eq];rfl
  clear b a h2
  go_in
  go_wp2;go_ret;exact⟨Z9 (by rw[hV.o]),U6⟩
 by_cases f:c=4\/c=5\/c=7
 ·have hV:Hid (vr c s.data.toList=Y5 s.data.toList):=by unfold vr;rw[if_neg a,if_neg h2,if_neg d,if_pos f];rfl
  clear b a h2 d;rcases f with rfl|rfl|rfl
  all_goals
   go_in
   go_wp2_with fail
   refine(c21 _ _ hs).mono ?_;rintro e w1⟨rfl,rfl⟩;go_wp2;go_ret;exact⟨Z9 (by rw[hV.o]),U6⟩
 have hV:Hid (vr c s.data.toList=false):=by unfold vr;rw[if_neg a,if_neg h2,if_neg d,if_neg f];rfl
 have e0:(c==0)=false:=L8;have e1:(c==1)=false:=L8;have e2:(c==2)=false:=L8;have e3:(c==3)=false:=L8;have e4:(c==4)=false:=L8;have e5:(c==5)=false:=L8;have e7:(c==7)=false:=L8;clear b a h2 d f
 go_in
 go_wp2;go_ret;exact⟨Z9 (by rw[hV.o]),U6⟩
def Tm(l:List UInt8):Bool:=Nc l&&l.all B_&&decide (val l<=7)
def aJ(l:List UInt8):Int:=if Tm l=true then val l else 0
theorem BL(h:Nc l=false):Tm l=false:=by simp[Tm,h]
theorem JU(h:l.all B_=false):Tm l=false:=by simp only[Tm,h,ay,MJ]
theorem a0W(k:Nat)(h:7<val (l.take k)):Tm l=false:=by
 by_cases ha:l.all B_=true
 ·have:=Qp l ha k;have hd:decide (val l<=7)=false:=by simp only[Xu];omega
  simp only[Tm,hd,ay]
 exact JU (by simpa using ha)
theorem a0T(h1:Nc l=true)(h2:l.all B_=true)(a:val l<=7):Tm l=true:=by
 have hd:decide (val l<=7)=true:=by simpa using a
 simp only[Tm,h1,h2,hd,zK]
theorem DF(h:Tm l=false):aJ l=0:=by simp[aJ,h]
theorem dG(h:Tm l=true):aJ l=val l:=by simp[aJ,h]
theorem a2A(s:BY)(w:World)(hs:s.size<=1048700):
 Calls prog 257 #[Sb s,Sc Se 7] w λe w'=>e=Sf (.tuple #[Sc Se (aJ s.data.toList),.bool (Tm s.data.toList)])/\w'=w:=by
 by_cases h0:s.size=0
 ·have e0:s.toList=[]:=by
   rw[ByteArray.toList_eq];exact Xb.1 (by simpa using h0)
  have a:Hid (Tm s.data.toList=false):=BL (by rw[<- ByteArray.toList_eq,e0];rfl)
  go_in
  go_wp2;go_ret2;exact⟨Vb (DF a.o).symm a.o.symm,rfl⟩
 have e0:s.toList.isEmpty=false:=by rw[ByteArray.toList_eq];exact Jp s O0
 have e1:¬s.toList=[]:=λh=>by rw[h]at e0;cases e0
 have p:0<s.size:=O0;have d:=Ns s p;by_cases hl:Nc s.data.toList=true
 ·have t:=U0 hl;have hc:(s[0].toNat=48/\s.toList=[48])\/((s[0].toNat:Int)==48)=false:=by
   by_cases h48:s[0].toNat=48
   ·refine .inl ⟨h48,?_⟩;have h1:s[0]=48:=uj.1 h48;rw[ByteArray.toList_eq];exact((ji _).1 hl).2 (by rw[d];exact h1)
   exact .inr L8
  clear hl d;rcases hc with⟨h48,hz⟩|h48
  all_goals
   go_in
   go_wp2;go_loop[6,21] (λn i=>∃k:Nat,k<=s.size/\i=Sc Se k/\n=Sc Se (val (s.data.toList.take k))/\0<=val (s.data.toList.take k)/\val (s.data.toList.take k)<=7/\Hid ((s.data.toList.take k).all B_=true)) (λ_ i=>s.size-(RowKit.intOf i).toNat);exact⟨0,Y4 _,rfl,rfl,by simp[val],by simp[val],rfl⟩;obtain⟨k,hk,rfl,rfl,hv0,o,ha⟩:=hrel;by_cases f:k<s.size
   ·by_cases b:B_ s[k]=true
    ·have g:=(Ue _).1 b;have hw:=Zq _ g;have r:=U0 (Ee _ s k f ha.o b);have c:Hid (val (s.data.toList.take (k+1))=val (s.data.toList.take k)*10+((s[k].toNat:Int)-48)):=by
      rw[take_snoc s k f];exact Bf _ _
     clear b;by_cases q:7<val (s.data.toList.take k)*10+((s[k].toNat:Int)-48)
     ·have a:=U0 (a0W (k+1) (by rw[c.o];exact q));go_wp2;go_ret2;exact⟨Vb (DF a.o).symm a.o.symm,rfl⟩
     go_wp2
     go_round
     exact⟨k+1,O0,by go_num,by rw[c.o],by rw[c.o];omega,by rw[c.o];omega,r⟩;exact V9
    have a:=U0 (JU (Ef _ s k f (by simpa using b)));have g:(s[k].toNat:Int)<48\/57<(s[k].toNat:Int):=by
     rcases Xo (s[k].toNat:Int) 48 with h|h
     ·exact .inl h
     rcases Xo 57 (s[k].toNat:Int)with l|l
     ·exact .inr l
     exact absurd ((Ue _).2 ⟨h,l⟩) b
    clear b;rcases g with b|b
    all_goals
     go_wp2
     all_goals go_ret2
     all_goals exact⟨Vb (DF a.o).symm a.o.symm,rfl⟩
   have m:=He _ s k O0 ha.o;have j:s.data.toList.take k=s.data.toList:=p_ L8;have a:=U0 (a0T t.o m (by rw[<- j];exact o));have u:=U0 j;clear m j;go_wp2;go_ret2;exact⟨Vb (by rw[dG a.o,u.o]) a.o.symm,rfl⟩
 have a:=U0 (BL (by simpa using hl));have h48:s[0].toNat=48/\¬s.toList=[48]:=by
  rw[ByteArray.toList_eq]at e1 ⊢;rw[ji,d]at hl;by_cases h1:s[0]=48
  ·refine⟨by rw[h1];rfl,λhz=>hl ⟨e1,λ_=>hz⟩⟩
  exact absurd ⟨e1,λh=>absurd h h1⟩ hl
 obtain⟨h48,hz⟩:=h48;have hz':(!s.toList==[48])=true:=by simpa using hz
 clear d hl
 go_in
 go_wp2;go_ret2;exact⟨Vb (DF a.o).symm a.o.symm,rfl⟩
theorem a1c(l:List UInt8):((Lib.cut l [58]).2.2=true/\l=(Lib.cut l [58]).1++58::(Lib.cut l [58]).2.1/\(58:UInt8)∉(Lib.cut l [58]).1)\/((Lib.cut l [58]).2.2=false/\(Lib.cut l [58]).1=l/\(58:UInt8)∉l):=by
 unfold Lib.cut;rw[Lib.index_one];have hge:=Lib.indexByte_ge l 58;by_cases h:Lib.indexByte l 58=-1
 ·rw[h,U7 O0];refine .inr ⟨rfl,rfl,λhm=>?_⟩;obtain⟨k,hk,e⟩:=Qe hm;exact Lib.indexByte_none h k (by rw[V8 hk,e])
 obtain⟨o,ho⟩:∃o:Nat,Lib.indexByte l 58=o:=⟨(Lib.indexByte l 58).toNat,O0⟩;obtain⟨h1,h2⟩:=Lib.indexByte_some ho;have hl:o<l.length:=by
  rcases Z7 o l.length with h|h
  ·exact h
  rw[Eb h]at h1;cases h1
 rw[ho,D8 O0];refine .inl ⟨rfl,?_,λhm=>?_⟩
 ·simp only[Yz,jk];have hx:l[o]=58:=by rw[V8 hl]at h1;exact C_ h1
  conv=>lhs;rw[<- Zk o l,Ky hl,hx]
 simp only[Yz]at hm;obtain⟨k,hk,e⟩:=Qe hm;rw[L_]at hk;rw[IB]at e;exact h2 k O0 (by rw[V8 O0,e])
def Vd(w:World):Prop:=5<w.heap.size/\∃m,w.cell? ⟨5,0,none⟩=some (Sc Se m)
theorem S9(h:Vd w)(a:Bw w w'):Vd w':=by
 obtain⟨h1,m,hm⟩:=h;exact⟨P9 h1 a.size,m,by rw[a.cell (by exact h1)];exact hm⟩
theorem below_drewN(n:Nat):Bw w (w.drewN n):=⟨rfl,rfl,rfl,Y7 _,λ_ _=>rfl⟩
theorem uS(l:List UInt8)(w:World)(hs:l.length<=1048700)(hm:Vd w):
 Calls prog 256 #[Sb (U3 l),Sb ⟨#[58]⟩] w λe w'=>e=Sf (.tuple #[Sb (U3 (Lib.cut l [58]).1),Sb (U3 (Lib.cut l [58]).2.1),.bool (Lib.cut l [58]).2.2])/\Bw w w':=by
 obtain⟨_,m,hm⟩:=hm;refine(Tryz.strings_Cut (U3 l) ⟨#[58]⟩ m w (by rw[I5];omega) hm).mono ?_;rintro e w'⟨rfl,n,rfl⟩;exact⟨rfl,below_drewN n⟩
def b_(c:Int)(l:List UInt8):List UInt8:=if vr c l=true then UInt8.ofNat (48+c).toNat::58::l else []
theorem Gi(h:vr c l=true):c=0\/c=1\/c=2\/c=3\/c=4\/c=5\/c=7:=by
 unfold vr at h;by_cases h1:c=0\/c=1
 ·omega
 rw[U7 h1]at h;by_cases h2:c=2
 ·omega
 rw[U7 h2]at h;by_cases b:c=3
 ·omega
 rw[U7 b]at h;by_cases a:c=4\/c=5\/c=7
 ·omega
 rw[U7 a]at h;cases h
theorem qL(h:vr c s.data.toList=false):Sf (Sb (⟨#[]⟩:BY))=Sf (Sb (U3 (b_ c s.data.toList))):=by
 unfold b_;rw[h];rfl
theorem EI(h:vr c s.data.toList=true):U3 (b_ c s.data.toList)=U3 [UInt8.ofNat (48+c).toNat]++⟨#[58]⟩++s:=by
 unfold b_;rw[if_pos h];apply ByteArray.ext;simp[U3]
theorem past{v:Value}(a:p.block<w.heap.size)(h:w.cell? p=some v)(o:Obj):(w.alloc o).cell? p=some v:=by
 rw[((O4 w.heap.size w).alloc A8 o).cell a];exact h
theorem c210(c:Int)(s:BY)(w:World)(hs:s.size<=1048700):
 Calls prog 210 #[.agg #[Sc Se c,Sb s]] w λe w'=>e=Sf (Sb (U3 (b_ c s.data.toList)))/\Bw w w':=by
 go_in
 go_wp2_with fail
 refine(IV _ _ _ hs).mono ?_;rintro e w1⟨rfl,a⟩;have b:=((O4 w.heap.size w).alloc A8 (.cells #[vI c,vS s] 117)).trans (a.mono J4);have hz1:w.heap.size+1<=w1.heap.size:=by have:=a.size;simp at this;omega
 have g10:w1.cell? (aW w 0)=some (vI c):=by rw[a.cell J4];simp
 have f:w1.cell? (aW w 1)=some (vS s):=by rw[a.cell J4];simp
 cases hv:vr c s.data.toList
 ·have hF:=qL hv;go_wp2;go_ret;exact⟨hF,b⟩
 have hc:=Gi hv;have hF:=U0 (EI hv);have hcv:=mM;have hcd:=MR;have hz:∀y,(strOfNums [y]).size=1:=λy=>strOfNums_size [y];clear hv;have h0:0<=c:=O0;have h7:c<=7:=O0;have d:Hid (strOfNums [48+c]=U3 [UInt8.ofNat (48+c).toNat]):=by
  rcases hc with rfl|rfl|rfl|rfl|rfl|rfl|rfl<;>rfl
 clear hc;have g12:=past L8 f;go_wp2;go_ret;exact⟨by rw[hF.o,<- d.o];rfl,by first|exact b.alloc O0 _|exact(b.alloc O0 _).drew⟩
theorem iG(hc:c=0\/c=1\/c=2\/c=3\/c=4\/c=5\/c=7)(hd:0<=d/\d<=9)(h:UInt8.ofNat (48+c).toNat=UInt8.ofNat (48+d).toNat):c=d:=by
 have a:=G7 UInt8.toNat h;simp only[fF]at a;omega
def ZF(l:List UInt8)(c:Int)(t:List UInt8)(ok:Bool):Prop:=
 (ok=true->vr c t=true/\l=UInt8.ofNat (48+c).toNat::58::t)/\(ok=false->(c=0/\t=[])/\∀c' t',vr c' t'=true->l≠UInt8.ofNat (48+c').toNat::58::t')
theorem pW(h:vr c t=true):0<=c/\c<=9:=by have:=Gi h;omega
theorem iM{u:List UInt8}{a b:Bool}(h:ZF l c t a)(k:ZF l d u b):c=d/\t=u/\a=b:=by
 cases a<;>cases b
 ·obtain⟨⟨rfl,rfl⟩,_⟩:=h.2 rfl;obtain⟨⟨rfl,rfl⟩,_⟩:=k.2 rfl;exact⟨rfl,rfl,rfl⟩
 ·obtain⟨_,f⟩:=h.2 rfl;obtain⟨h1,h2⟩:=k.1 rfl;exact absurd h2 (f _ _ h1)
 ·obtain⟨_,f⟩:=k.2 rfl;obtain⟨h1,h2⟩:=h.1 rfl;exact absurd h2 (f _ _ h1)
 obtain⟨h1,h2⟩:=h.1 rfl;obtain⟨g,e⟩:=k.1 rfl;rw[h2]at e;simp only[Yi,yA]at e;exact⟨iG (Gi h1) (pW g) e.1,e.2,rfl⟩
theorem YA(h:∀b a,vr b a=true->l≠UInt8.ofNat (48+b).toNat::58::a):ZF l 0 [] false:=⟨(λh=>by cases h),λ_=>⟨⟨rfl,rfl⟩,h⟩⟩
theorem UL(h:Tm l=true):0<=val l/\val l<=7/\l=[UInt8.ofNat (48+val l).toNat]:=by
 simp only[Tm,Fa,Pe]at h;obtain⟨⟨h1,h2⟩,a⟩:=h;have h0:=jo l h2;refine⟨h0,a,?_⟩;have hd:=(Kz l h2 h1).1;rw[dec_lt _ O0]at hd;exact hd.symm
theorem GV(h:c=0\/c=1\/c=2\/c=3\/c=4\/c=5\/c=7):Tm [UInt8.ofNat (48+c).toNat]=true:=by
 rcases h with rfl|rfl|rfl|rfl|rfl|rfl|rfl<;>decide
theorem vP(h:c=0\/c=1\/c=2\/c=3\/c=4\/c=5\/c=7):(58:UInt8)∉[UInt8.ofNat (48+c).toNat]:=by
 rcases h with rfl|rfl|rfl|rfl|rfl|rfl|rfl<;>decide
theorem uX{a b r q:List UInt8}(ha:(58:UInt8)∉a)(c:(58:UInt8)∉b)(h:a++58::r=b++58::q):a=b/\r=q:=by
 induction a generalizing b with
 | nil=>
  cases b with
  | nil=>exact⟨rfl,by simpa using h⟩
  | cons x b=>simp at h;exact absurd (by rw[h.1];simp) c
 | cons x a ih=>
  cases b with
  | nil=>simp at h;exact absurd (by rw[h.1];simp) ha
  | cons y b=>
   simp only[jd,Yi]at h;obtain⟨rfl,h⟩:=h;obtain⟨rfl,rfl⟩:=ih (λm=>ha (Ug _ m)) (λm=>c (Ug _ m)) h;exact⟨rfl,rfl⟩
theorem fQ:((Lib.cut l [58]).2.2=true->Tm (Lib.cut l [58]).1=true->vr (aJ (Lib.cut l [58]).1) (Lib.cut l [58]).2.1=true->ZF l (aJ (Lib.cut l [58]).1) (Lib.cut l [58]).2.1 true)/\(¬((Lib.cut l [58]).2.2=true/\Tm (Lib.cut l [58]).1=true/\vr (aJ (Lib.cut l [58]).1) (Lib.cut l [58]).2.1=true)->ZF l 0 [] false):=by
 have hcut:=a1c l;generalize (Lib.cut l [58]).1=a at hcut ⊢;generalize (Lib.cut l [58]).2.1=t at hcut ⊢;generalize (Lib.cut l [58]).2.2=k at hcut ⊢;rcases hcut with⟨rfl,rfl,f⟩|⟨rfl,rfl,f⟩
 ·refine⟨λ_ c hv=>⟨λ_=>⟨hv,?_⟩,(λh=>by cases h)⟩,λh=>YA λg i d e=>?_⟩
  ·obtain⟨_,_,h⟩:=UL c;rw[dG c]
   conv=>lhs;rw[h]
   rfl
  obtain⟨rfl,rfl⟩:=uX (b:=[UInt8.ofNat (48+g).toNat]) f (vP (Gi d)) e;have c:=GV (Gi d);obtain⟨h0,h1,hl⟩:=UL c;have hc:=iG (Gi d) ⟨h0,O0⟩ (by simpa using hl);refine h ⟨rfl,c,?_⟩;rw[dG c,<- hc];exact d
 refine⟨(λh=>by cases h),λ_=>YA λg i d e=>f ?_⟩;rw[e];simp
theorem cO(h:l.length<2):ZF l 0 [] false:=YA λc' t' _ e=>by rw[e]at h;simp at h;omega
theorem RN(h:((l.headD 0).toNat:Int)<48\/57<((l.headD 0).toNat:Int)):ZF l 0 [] false:=YA λc' t' hv e=>by
 rw[e]at h;simp only[FK]at h;have:=Gi hv;rw[fF]at h;omega
theorem oQ{x:UInt8}(h2:2<=l.length)(hx:l.headD 0=x)(hc:(x.toNat:Int)=48+c)(h0:0<=c/\c<=9):
 (b_ c (l.drop 2)=l->ZF l c (l.drop 2) true)/\(b_ c (l.drop 2)≠l->ZF l 0 [] false):=by
 constructor
 ·intro h;unfold b_ at h;by_cases hv:vr c (l.drop 2)=true
  ·rw[D8 hv]at h;exact⟨λ_=>⟨hv,h.symm⟩,(λh=>by cases h)⟩
  rw[U7 hv]at h;rw[<- h]at h2;simp at h2
 intro h;refine YA λa t' hv e=>h ?_;rw[e]at hx ⊢;simp only[FK]at hx;have:a=c:=iG (Gi hv) h0 (by
  rw[hx];apply uj.1;rw[fF];have:=x.toNat_lt;omega)
 subst this;simp only[List.drop_succ_cons,mF];unfold b_;rw[D8 hv]
def qP(l:List UInt8)(e:Ending):Prop:=∃(c:Int)(t:List UInt8)(ok:Bool),e=Sf (.tuple #[.agg #[Sc Se c,Sb (U3 t)],.bool ok])/\ZF l c t ok/\t.length<=l.length
theorem Xp(l:List UInt8):(U3 l).data.toList=l:=by simp[U3]
theorem Pq(s:BY):U3 s.data.toList=s:=by apply jg;simp[U3]
theorem cut_small(l:List UInt8):(Lib.cut l [58]).1.length<=l.length/\(Lib.cut l [58]).2.1.length<=l.length:=by
 unfold Lib.cut;split
 ·simp only[L_,Oj];omega
 simp
theorem Le{j k:Nat}(h:j≠k):(⟨B,j,none⟩:Addr)≠⟨B,k,none⟩:=λe=>h (by cases e;rfl)
theorem rz2{u:World}(a:Below (w.heap.size+1) (w.alloc (.cells #[Sc Se 0,Sb ⟨#[]⟩] 117)) u):
 (u.cell? ⟨w.heap.size,0,none⟩=some (Sc Se 0)/\u.cell? ⟨w.heap.size,1,none⟩=some (Sb ⟨#[]⟩))/\u.frozen? ⟨w.heap.size,0,none⟩=false/\u.frozen? ⟨w.heap.size,1,none⟩=false:=by
 have c:∀j,u.cell? (aW w j)=(w.alloc (.cells #[vO,vE] 117)).cell? (aW w j):=λj=>a.cell J4;have f:∀j,u.frozen? (aW w j)=(w.alloc (.cells #[vO,vE] 117)).frozen? (aW w j):=λj=>a.frozen J4;rw[c,c,f,f];simp
theorem XH(a:p.block<w.heap.size)(h:w.frozen? p=false)(o:Obj):(w.alloc o).frozen? p=false:=by
 rw[((O4 w.heap.size w).alloc A8 o).frozen a];exact h
theorem Eo(u:World)(B:Nat)(a v1 x0 x1:Value)(h0:u.cell? ⟨B,0,none⟩=some x0)(h1:u.cell? ⟨B,1,none⟩=some x1):
 ((u.setCell ⟨B,0,none⟩ a).setCell ⟨B,1,none⟩ v1).cell? ⟨B,0,none⟩=some a/\((u.setCell ⟨B,0,none⟩ a).setCell ⟨B,1,none⟩ v1).cell? ⟨B,1,none⟩=some v1:=by
 have a1:(u.setCell (aA B 0) a).cell? (aA B 1)=some x1:=by rw[Nb _ _ _ _ (Le O0)];exact h1
 refine⟨?_,Jg _ _ _ a1⟩;rw[Nb _ _ _ _ (Le O0)];exact Jg _ _ _ h0
theorem a6D(l:List UInt8)(w:World)(hs:l.length<=1048700)(hm:Vd w):
 Calls prog 214 #[Sb (U3 l)] w λe w'=>qP l e/\Bw w w':=by
 have q:=cut_small l;have m:=@fQ l;have x:Bw w (w.alloc (.cells #[vO,vE] 117)):=(O4 w.heap.size w).alloc A8 _;have r:=uS l _ hs (S9 hm x);generalize ha:(Lib.cut l [58]).1=a at q m r;generalize ht:(Lib.cut l [58]).2.1=t at q m r;generalize hk:(Lib.cut l [58]).2.2=k at q m r;have H:=a2A (U3 a);rw[Xp,I5]at H;have E:=λc=>c234 c (U3 t);rw[Xp,I5]at E;obtain⟨hca,J⟩:=q
 go_in
 go_wp2_with fail
 refine r.mono ?_;rintro e d⟨rfl,K⟩;have o:Below (w.heap.size+1) (w.alloc (.cells #[vO,vE] 117)) d:=bG K;have j:=x.trans (o.mono O0);have b:w.heap.size<d.heap.size:=by have:=o.size;simp at this;omega
 go_wp2_with fail
 refine(H _ O0).mono ?_;rintro e w'⟨rfl,I⟩;obtain rfl:=I.symm;obtain⟨⟨i,g⟩,B,A⟩:=rz2 o;have z0':=past (by exact b) i;have z1':=past (by exact b) g;have y0':=XH (by exact b) B;have y1':=XH (by exact b) A;have u:¬(k=true/\Tm a=true/\vr (aJ a) t=true)->Hid (qP l (Sf (.tuple #[.agg #[vO,vE],.bool false]))):=λh=>⟨0,[],false,rfl,m.2 h,Y4 _⟩;cases hk:k
 ·have f:=u (by rw[hk];simp);go_wp2;have F:=Eo d w.heap.size vO vE _ _ i g;have z:=past (p:=(aW w 0)) (by simpa using b) F.1;have y:=past (p:=(aW w 1)) (by simpa using b) F.2;refine P7 (v:=.tuple #[.agg #[vO,vE],.bool false]) (by simp[results,results214,go_sem,z,y]) rfl ⟨f,?_⟩
  first
   | exact((j.setCell J4 _).setCell J4 _).alloc (by simpa using j.size) _
   | exact((j.setCell J4 _).setCell J4 _)
 cases h7:Tm a
 ·have f:=u (by rw[h7];simp);go_wp2;have F:=Eo d w.heap.size vO vE _ _ i g;have z:=past (p:=(aW w 0)) (by simpa using b) F.1;have y:=past (p:=(aW w 1)) (by simpa using b) F.2;refine P7 (v:=.tuple #[.agg #[vO,vE],.bool false]) (by simp[results,results214,go_sem,z,y]) rfl ⟨f,?_⟩
  first
   | exact((j.setCell J4 _).setCell J4 _).alloc (by simpa using j.size) _
   | exact((j.setCell J4 _).setCell J4 _)
 go_wp2_with fail
 refine(E _ _ O0).mono ?_;rintro e n⟨rfl,s⟩;have C:=(o.alloc O0 (.cells #[vI (aJ a),vS (U3 t)] 117)).trans (s.mono L8);have D:=x.trans (C.mono O0);have hR3:d.heap.size<n.heap.size:=by have:=s.size;simp at this;omega
 have r0:n.cell? (aW d 0)=some (vI (aJ a)):=by rw[s.cell J4];simp
 have r1:n.cell? (aW d 1)=some (vS (U3 t)):=by rw[s.cell J4];simp
 obtain⟨⟨i,g⟩,B,A⟩:=rz2 C;cases hv:vr (aJ a) t
 ·have f:=u (by rw[hv];simp);go_wp2;refine P7 (v:=.tuple #[.agg #[vO,vE],.bool false]) (by simp[results,results214,go_sem,i,g]) rfl ⟨f,?_⟩;exact((D.setCell J4 _).setCell J4 _)
 have f:Hid (qP l (Sf (.tuple #[.agg #[vI (aJ a),vS (U3 t)],.bool true]))):=⟨aJ a,t,true,rfl,m.1 hk h7 hv,J⟩;go_wp2;have F:=Eo n w.heap.size (vI (aJ a)) (vS (U3 t)) _ _ i g;refine P7 (v:=.tuple #[.agg #[vI (aJ a),vS (U3 t)],.bool true]) (by simp[results,results214,go_sem,F.1,F.2]) rfl ⟨f,?_⟩;exact((D.setCell J4 _).setCell J4 _)
theorem drop2(s:BY):s.extract 2 s.size=U3 (s.data.toList.drop 2):=by
 apply jg;apply Yl.1;simp[U3];exact p_ J4
theorem a6y(s:BY)(w:World)(hs:s.size<=1048700):
 Calls prog 252 #[Sb s] w λe w'=>qP s.data.toList e/\Bw w w':=by
 have p:s.data.toList.length=s.size:=J4;have j:Bw w (w.alloc (.cells #[vO,vE] 117)):=(O4 w.heap.size w).alloc A8 _;have a:ZF s.data.toList 0 [] false->Hid (qP s.data.toList (Sf (.tuple #[.agg #[vO,vE],.bool false]))):=λh=>⟨0,[],false,rfl,h,Y4 _⟩;by_cases h2:s.size<2
 ·have b:=a (cO O0);clear a p
  go_in
  go_wp2;refine P7 (v:=.tuple #[.agg #[vO,vE],.bool false]) (by simp[results,results252,go_sem]) rfl ⟨b.o,j⟩
 have h0:0<s.size:=O0;have i:=Ns s h0;by_cases hd:(s[0].toNat:Int)<48\/57<(s[0].toNat:Int)
 ·have b:=a (RN (by rw[i];exact hd));clear a p i;rcases hd with hd|hd
  all_goals
   go_in
   go_wp2;refine P7 (v:=.tuple #[.agg #[vO,vE],.bool false]) (by simp[results,results252,go_sem]) rfl ⟨b.o,j⟩
 have r:48<=(s[0].toNat:Int)/\(s[0].toNat:Int)<=57:=O0;have hw:=Zq _ r;have g:=oQ (l:=s.data.toList) (x:=s[0]) (c:=(s[0].toNat:Int)-48) O0 i O0 O0;have hx:=drop2 s;clear i hd;have q:(s.data.toList.drop 2).length<=s.data.toList.length:=J4;generalize hT:s.data.toList.drop 2=T at g hx q;clear hT;have k:=c210 ((s[0].toNat:Int)-48) (U3 T);rw[Xp,I5]at k;generalize hL:s.data.toList=L at*;generalize hC:(s[0].toNat:Int)-48=C at*;obtain⟨d1,d2⟩:=r
 go_in
 go_wp2_with fail
 go_region
 all_goals
  go_wp2_with fail
  refine(k _ O0).mono ?_;rintro e d⟨rfl,f⟩;have hz3:w.heap.size+2<=d.heap.size:=by have:=f.size;simp at this;omega
  have o:Below (w.heap.size+1) (w.alloc (.cells #[vO,vE] 117)) d:=by
   refine tC ?_ (f.mono J4)
   first|exact((O4 _ _).alloc J4 _).drew|exact(O4 _ _).alloc J4 _
  have t:=j.trans (o.mono O0);have r0:d.cell? (aA (w.heap.size+1) 0)=some (vI C):=by rw[f.cell J4];simp[go_sem]
  have r1:d.cell? (aA (w.heap.size+1) 1)=some (vS (U3 T)):=by rw[f.cell J4];simp[go_sem]
  obtain⟨⟨n,m⟩,y0,y1⟩:=rz2 o;clear f k;by_cases hf:b_ C T=L
  ·have b:Hid (qP L (Sf (.tuple #[.agg #[vI C,vS (U3 T)],.bool true]))):=⟨C,T,true,rfl,g.1 hf,q⟩;have e1:((U3 (b_ C T)).toList==s.toList)=true:=by rw[hf,ByteArray.toList_eq,ByteArray.toList_eq,Xp,hL];simp
   have u:(U3 (b_ C T)).toList=s.toList:=by simpa using e1
   clear a g hf;go_wp2;have F:=Eo d w.heap.size (vI C) (vS (U3 T)) _ _ n m;refine P7 (v:=.tuple #[.agg #[vI C,vS (U3 T)],.bool true]) (by simp[results,results252,go_sem,F.1,F.2]) rfl ⟨b.o,?_⟩;exact((t.setCell J4 _).setCell J4 _)
  have b:=a (g.2 hf);have u:¬(U3 (b_ C T)).toList=s.toList:=by rw[ByteArray.toList_eq,ByteArray.toList_eq,Xp,hL];exact hf
  have e1:((U3 (b_ C T)).toList==s.toList)=false:=by simpa using u
  clear a g hf;go_wp2;have F:=Eo d w.heap.size vO vE _ _ n m;refine P7 (v:=.tuple #[.agg #[vO,vE],.bool false]) (by simp[results,results252,go_sem,F.1,F.2]) rfl ⟨b.o,?_⟩;exact((t.setCell J4 _).setCell J4 _)
def J8(w:World)(a:OA)(ss:LB):Prop:=
 ss=[]\/∃b off,a=some ⟨b,off,none⟩/\b<w.heap.size/\∀i,i<ss.length->w.cell? ⟨b,off+i,none⟩=some (Sb (ss.getD i ByteArray.empty))
theorem info9:(prog.info? 9).map (λi=>(i.zero,i.size,i.bytes))=some (some (Sb ⟨#[]⟩),1,16):=Y0
theorem Aa(h:J8 w a ss):∃b off,(ss=[]\/(a=some ⟨b,off,none⟩/\b<w.heap.size/\∀i,i<ss.length->w.cell? ⟨b,off+i,none⟩=some (Sb (ss.getD i ByteArray.empty)))):=by
 rcases h with h|⟨b,off,h⟩
 ·exact⟨0,0,.inl h⟩
 exact⟨b,off,.inr h⟩
theorem G6(h:J8 w a ss)(c:Bw w w'):J8 w' a ss:=by
 rcases h with h|⟨b,off,h1,h2,e⟩
 ·exact .inl h
 exact .inr ⟨b,off,h1,P9 h2 c.size,λi d=>by rw[c.cell (by exact h2)];exact e i d⟩
theorem sK(h:∀i,i<ss.length->(ss.getD i ByteArray.empty).size<=B)(i:Nat):(ss.getD i ByteArray.empty).size<=B:=by
 rcases Z7 i ss.length with a|a
 ·exact h i a
 have e:ss.getD i ByteArray.empty=ByteArray.empty:=by simp[List.getD,Eb a]
 rw[e];exact Y4 _
theorem c17(a:OA)(cap:Nat)(ss:LB)(l:Int)(w:World)(h0:0<=l)(h1:l<=1048576)(hs:∀i,(ss.getD i ByteArray.empty).size<=9223372036854775807)(hl:ss.length<=9223372036854775807)(j:J8 w a ss):
 Calls prog 17 #[Sa a ss.length cap,Sc Se l] w λe w'=>(∃r:Int,e=Sf (Sc Se r)/\(0<=r->ss.length<=1048576/\(∀i,(ss.getD i ByteArray.empty).size<=1048576)/\r<=l-ss.length))/\w'=w:=by
 obtain⟨b,off,hc⟩:=Aa j;have o:=U0 hc;clear hc j;by_cases hbig:l<ss.length
 ·go_in
  go_wp2;go_ret;exact⟨⟨-1,rfl,λh=>O0⟩,rfl⟩
 go_in
 go_wp2;go_loop[1,5] (λq i=>∃(k:Nat)(r:Int),k<=ss.length/\i=Sc Se k/\q=Sc Se r/\0<=r/\r<=l-ss.length/\Hid (∀i,i<k->(ss.getD i ByteArray.empty).size<=1048576)) (λ_ i=>ss.length-(RowKit.intOf i).toNat);exact⟨0,_,Y4 _,rfl,rfl,O0,O0,λi h=>absurd h (U8 _)⟩;obtain⟨k,r,hk,rfl,rfl,hr0,m,d⟩:=hrel;by_cases f:k<ss.length
 ·obtain⟨ha,hbw,g⟩:=Ud o.o f;subst ha;have g0:=g k f;have hxs:=hs k;generalize hx:ss.getD k ByteArray.empty=x at*;have n:=U0 hx;clear hx g;by_cases hneg:r<x.size
  ·go_wp2;go_ret;exact⟨⟨-1,rfl,λh=>O0⟩,rfl⟩
  have c:Hid (∀i,i<k+1->(ss.getD i ByteArray.empty).size<=1048576):=by
   intro i h;rcases Z7 i k with h1|h1
   ·exact d.o i h1
   obtain rfl:i=k:=O0;rw[n.o];omega
  go_wp2
  go_round
  exact⟨k+1,_,O0,by go_num,rfl,O0,O0,c⟩;exact V9
 have c:=U0 (sK (λi h=>d.o i O0));go_wp2;go_ret;exact⟨⟨r,rfl,λ_=>⟨O0,c.o,m⟩⟩,rfl⟩
theorem c40(a l:OA)(cap n:Nat)(ss:LB)(w:World)(hl:ss.length<=1048576)(j:J8 w a ss)(h:J8 w l ss):
 Calls prog 40 #[Sa a ss.length cap,Sa l ss.length n] w λe w'=>e=Sf (.bool true)/\Bw w w':=by
 obtain⟨b,off,hc⟩:=Aa j;have p:=U0 hc;clear hc j;obtain⟨b',off',g⟩:=Aa h;have o:=U0 g;clear g h
 go_in
 go_wp2;go_loopw[5] (λi wr=>∃(k nq:Nat),k<=ss.length/\i=Sc Se k/\wr=w.drewN nq) (λi _=>ss.length-(RowKit.intOf i).toNat);exact⟨0,0,Y4 _,rfl,rfl⟩;obtain⟨k,nq,hk,rfl,rfl⟩:=hrel;by_cases c:k<ss.length
 ·obtain⟨ha,hbw,f⟩:=Ud p.o c;obtain⟨m,a8a,d⟩:=Ud o.o c;subst ha;subst m;have g0:=f k c;have g1:=d k c;generalize ss.getD k ByteArray.empty=x at*;clear f d
  go_wp2_with fail
  go_quiet (fail)
  go_wp2;go_roundw;exact⟨k+1,_,O0,by go_num,rfl⟩;exact V9
 go_wp2;go_ret;exact⟨rfl,below_drewN _⟩
