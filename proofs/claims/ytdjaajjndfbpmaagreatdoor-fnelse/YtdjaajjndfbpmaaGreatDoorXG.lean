import Derived.Test.YtdjaajjndfbpmaaGreatDoorWM
import Derived.Deep.Cut
set_option linter.unusedVariables false
set_option maxHeartbeats 8000000
set_option maxRecDepth 100000
namespace Go.Proofs.YtdjaajjndfbpmaaGreatDoor
open Proofs.Tryz
open Go.RowKit
theorem Yh.up {A B:Nat} {w:World} {v:Value} (h:Yh A w v) (hB:A<=B):Yh B w v:=by
 obtain ⟨a,c,fs,h1,h2,h3,b⟩:=h;exact ⟨a,c,fs,h1,h2,Z4 h3 hB,b⟩
theorem WJ {q P:Nat} {w u:World} {v:Value} (c:D6 u q P) (e:But q w u) (hq:q<w.heap.size) (h1:Cl u w.heap.size 25 [.slice none 0 0]) (b:Yh 60 u v) (d:∀ k,v.ownBlock=some k->w.heap.size<=k) (a:Array Value) (h2:a[2]?=some (.pointer (some ⟨w.heap.size,0,none⟩))):bodyPost prog f32 (oI 60 q P w) .ret ⟨a,[]⟩ (u.setCell ⟨w.heap.size,0,none⟩ v):=by
 have f:=O7 u ⟨w.heap.size,0,none⟩ v (h1.cell 0);exact K4 (v:=.agg #[v]) (by simp [results,results32,go_sem,f,h2]) rfl ⟨⟨v,rfl,Yf b h1,d⟩,J8 c O0 _ _,U7 e P9 _ _⟩
theorem Cc {w w':World} {a:Option Addr} {L:Nat} (h:BytesAt w a L) (g:Below w.heap.size w w'):BytesAt w' a L:=by
 rcases h with h | ⟨b,c,h1,h3⟩
 · exact .inl h
 exact .inr ⟨b,c,h1,fun i f=>by obtain ⟨z,d,e⟩:=h3 i f;exact ⟨z,d,(g.cell (Ck e)).trans e⟩⟩
theorem c32 (q P:Nat) (w:World) (hp:P<=1000) (b:D6 w q P):
 Calls prog 32 #[.pointer (some ⟨q,0,none⟩)] w fun e w'=>oI 60 q (P+1506) w e w':=by
 have D:=M4 b;have p:=b.lt;clear b;go_enter func32,ntmps32
 go_wp2_with fail
 obtain ⟨w0,h⟩:∃ y:World,y=w.alloc (.cells #[.slice none 0 0] 25):=⟨_,rfl⟩;rw [<- h];have b0:Below w.heap.size w w0:=by rw [h];exact bA
 have C0:Hid (Cl w0 w.heap.size 25 [.slice none 0 0]):=by show Cl _ _ _ _;rw [h];exact U1 w [_] 25
 clear h;refine (ZQ q P w0 O0 (D.out.later b0)).mono ?_;rintro e w1 ⟨⟨v,rfl,o,t⟩,b,d⟩;have B1:=M4 ((But.of_below b0).trans d);have i:Hid (Cl w1 w.heap.size 25 [.slice none 0 0]):=(d.block _ C0.out.lt O0).trans C0.out;have E:Hid (∀ k,v.ownBlock=some k->w.heap.size<=k):=fun k e=>Z4 b0.size (t k e);obtain ⟨l,g⟩:∃ y:World,y=w1.alloc (.cells #[v] 25):=⟨_,rfl⟩;have b2:Below w1.heap.size w1 l:=by rw [g];exact bA
 have F:Hid (Cl l w1.heap.size 25 [v]):=by show Cl _ _ _ _;rw [g];exact U1 w1 [_] 25
 have R2:=M4 (b.later b2);have B2:=M4 (B1.out.later b2);have A:=M4 (o.below b2);have H:=M4 (i.out.below b2 i.out.lt);obtain ⟨a,c,fs,hv,_⟩:=o;subst hv;have hz:=i.out.lt;clear b d t B1 i C0 b0 D b2
 go_wp2_with fail
 rw [<- g];clear g;generalize w1.heap.size=X at*;refine (X5 l q (P+1500) 20 O0 O0 O0 R2.out).mono ?_;rintro e j ⟨⟨r,rfl,r0,r1⟩,b,ho⟩;have C:=M4 b;have B3:=M4 (B2.out.trans ho.but);have z:=M4 (A.out.but ho.but (fun k e=>by have:=E.out k e;omega));have f:Hid (Cl j w.heap.size 25 [.slice none 0 0]):=(ho.block _ O0).trans H.out;have S:Hid (Cl j X 25 [.slice a fs.length c]):=(ho.block _ O0).trans F.out;clear b ho R2 B2 A H F;have u:=S.out.cell 0;have x:=f.out.cell 0;have L:=f.out.opn 0;dsimp only [List.getElem?_cons_zero] at u x;rcases Ie (r=0) with h0 | h0;rotate_left
 · have hrb:(r==0)=false:=by simpa using h0
   go_wp2;exact WJ (C.out.mono O0) B3.out p f.out (z.out.up O0) E.out _ rfl
 subst h0
 go_wp2_with fail
 refine (OP 40 q (P+1501) _ j O0 O0 C.out z.out).mono ?_;rintro e I ⟨⟨J,rfl,n,s⟩,b,d⟩;have m:Hid (Cl I w.heap.size 25 [.slice none 0 0]):=(d.block _ f.out.lt O0).trans f.out;have B4:=M4 (B3.out.trans d);have R:Hid (∀ k,J.ownBlock=some k->w.heap.size<=k):=fun k e=>Z4 B3.out.size (s k e);have O:=M4 (n.up (B:=60) O0);have Q:=M4 b;obtain ⟨a4,c17,f4,K,_⟩:=n;subst K;have N:=m.out.cell 0;have e4:=m.out.opn 0;dsimp only [List.getElem?_cons_zero] at N;clear b d s u x L;go_wp2;exact WJ Q.out B4.out p m.out O.out R.out _ rfl
def VP (w:World) (e:Ending) (w':World):Prop:=(∃ v nm,e=.returned (.tuple #[.agg #[v],.string nm])/\Yh 60 w' v/\nm.size<=20)/\Below w.heap.size w w'
theorem c17 (a:Option Addr) (L cap:Nat) (w:World) (hL:L<=1048576) (hcap:L<=cap) (h:BytesAt w a L):
 Calls prog 17 #[.slice a L cap] w fun e w'=>VP w e w':=by
 have HB:=M4 h;clear h;go_enter func17,ntmps17
 go_wp2_with fail
 obtain ⟨w0,n⟩:∃ y:World,y=w.alloc (.cells #[.slice none 0 0] 25):=⟨_,rfl⟩;rw [<- n];have b0:Below w.heap.size w w0:=by rw [n];exact bA
 have C0:Hid (Cl w0 w.heap.size 25 [.slice none 0 0]):=by show Cl _ _ _ _;rw [n];exact U1 w [_] 25
 clear n;refine (c31 a L cap w0 hL hcap (Cc HB.out b0)).mono ?_;rintro e w1 ⟨rfl,O,s,hsz⟩;have D:Hid (D6 w1 w0.heap.size 0):=⟨0,Q6 _,O⟩;have b1:=M4 (bT b0 s);have I:=M4 (C0.out.below s C0.out.lt);have hz0:=C0.out.lt;clear O s hsz b0 C0 HB;generalize w0.heap.size=q at*
 go_wp2_with fail
 refine (c32 q 0 w1 O0 D.out).mono ?_;rintro e d ⟨⟨v,rfl,N,P⟩,i,b⟩;have hq1:=D.out.lt;have b2:=Q0 (b1.out.trans (b.below O0 O0));have p:Hid (Cl d w.heap.size 25 [.slice none 0 0]):=(b.block _ I.out.lt O0).trans I.out;obtain ⟨g,m⟩:∃ y:World,y=d.alloc (.cells #[v] 25):=⟨_,rfl⟩;have b3:Below d.heap.size d g:=by rw [m];exact bA
 have o:Hid (Cl g d.heap.size 25 [v]):=by show Cl _ _ _ _;rw [m];exact U1 d [_] 25
 have Z:=M4 (i.later b3);have Y:=M4 (N.below b3);have H:=M4 (p.out.below b3 p.out.lt);have B3:=M4 (bT b2.out b3);have HK:Hid (∀ k,v.ownBlock=some k->k≠q):=fun k e=>by have:=P k e;omega
 have hqs:=i.lt;obtain ⟨a9,c7,f9,aW,_⟩:=N;subst aW;have hzR:=p.out.lt;clear P i b D b1 I b2 p b3
 go_wp2_with fail
 rw [<- m];clear m;generalize d.heap.size=X at*;have Q:=o.out.cell 0;dsimp only [List.getElem?_cons_zero] at Q;generalize hv:(Value.slice a9 f9.length c7)=v at*;clear hv;refine F7 (S:=fun u=>u.cell? ⟨X,0,none⟩=some v) U2 ?_ fun c=>?_
 · ((try dsimp only);go_keep)
 obtain ⟨J,r⟩:∃ y:World,y=g.drew:=⟨_,rfl⟩;rw [<- r] at c ⊢;have f:Below g.heap.size g J:=by rw [r];exact (F4 _ _).drew
 have C:=M4 (Z.out.later f);have W:=M4 (Y.out.below f);have F:=M4 (H.out.below f H.out.lt);have B:=M4 (o.out.below f o.out.lt);have B4:=M4 (bT B3.out f);clear r Z Y H B3 o f Q;refine tq 0 c ?_;refine I4 1 c ?_;refine rq 2 fun K j=>?_;go_simp;refine (yQ q (0+1506) J O0 C.out).mono ?_;rintro e l ⟨⟨nm,rfl,hnm⟩,i,b⟩;have hq4:=C.out.lt;have V:=M4 (W.out.but b HK.out);have E:Hid (Cl l w.heap.size 25 [.slice none 0 0]):=(b.block _ F.out.lt O0).trans F.out;have A:Cl l X 25 [v]:=(b.block _ B.out.lt O0).trans B.out;have B5:=Q0 (B4.out.trans (b.below O0 (by have:=B4.out.size;omega)));clear i b c C W F B B4;go_simp;refine Z6 j (A.cell 0) fun c=>?_;clear j K;obtain ⟨z,x,t,hv1,_⟩:=V.out;subst hv1;refine rq 3 fun K j=>?_;have R:=E.out.cell 0;have e1:=E.out.opn 0;dsimp only [List.getElem?_cons_zero] at R;go_simp;have U:=(A.on (I6 l w.heap.size 0 (.slice z t.length x)) O0).cell 0;clear c;refine Z6 j U fun c=>?_;clear j K;refine I4 4 c ?_;refine a_ ?_;clear c U A;go_wp2;have er:=O7 l ⟨w.heap.size,0,none⟩ (.slice z t.length x) R;exact K4 (v:=.tuple #[.agg #[.slice z t.length x],.string nm]) (by simp [results,results17,go_sem,er]) rfl ⟨⟨_,nm,rfl,Yf V.out E.out,hnm⟩,B5.out.setCell P9 _⟩
def vM (q P:Nat) (w:World) (e:Ending) (w':World):Prop:=(∃ nm tx:ByteArray,e=.returned (.agg #[.string nm,.string tx])/\nm.size<=4000/\tx.size<=4000)/\D6 w' q P/\But q w w'
structure LF (q P:Nat) (w u:World):Prop where
 rd:D6 u q P
 bu:But q w u
 qw:q<w.heap.size
 h1:Cl u w.heap.size 39 [.string ⟨#[]⟩,.string ⟨#[]⟩]
variable {q P P':Nat} {w u u':World}
theorem LF.call (h:LF q P w u) (b:D6 u' q P') (a:But q u u'):LF q P' w u':=by
 have:=h.qw;exact ⟨b,h.bu.trans a,h.qw,(a.block _ h.h1.lt O0).trans h.h1⟩
theorem LF.later (h:LF q P w u) (a:Below u.heap.size u u'):LF q P w u':=h.call (h.rd.later a) (But.of_below a)
theorem LF.fin (h:LF q P w u) (c:P<=P') {nm tx:ByteArray} (d:nm.size<=4000) (b:tx.size<=4000) (a:Array Value) (h2:a[2]?=some (.pointer (some ⟨w.heap.size,0,none⟩))):bodyPost prog f36 (vM q P' w) .ret ⟨a,[]⟩ ((u.setCell ⟨w.heap.size,0,none⟩ (.string nm)).setCell ⟨w.heap.size,1,none⟩ (.string tx)):=by
 have F:=G.N9 u w.heap.size (.string nm) (.string tx) _ _ (h.h1.cell 0) (h.h1.cell 1);have:=h.qw;refine K4 (v:=.agg #[.string nm,.string tx]) (by simp [results,results36,go_sem,F.1,F.2,h2]) rfl ⟨⟨nm,tx,rfl,d,b⟩,?_,U7 (U7 h.bu P9 _ _) P9 _ _⟩;exact (J8 (J8 h.rd O0 _ _) O0 _ _).mono c
def Jj:List Value:=[.string ⟨#[101,108,115,101,119,104,101,114,101]⟩,.string ⟨#[120,48]⟩,.string ⟨#[103,111,110,101]⟩]
theorem PP (q P:Nat) (w:World) (hp:P<=70000) (c:D6 w q P):
 Calls prog 36 #[.pointer (some ⟨q,0,none⟩)] w fun e w'=>vM q (P+100) w e w':=by
 have hq:=c.lt;go_enter func36,ntmps36
 go_wp2_with fail
 obtain ⟨w0,V⟩:∃ y:World,y=w.alloc (.cells #[.string ⟨#[]⟩,.string ⟨#[]⟩] 39):=⟨_,rfl⟩;rw [<- V];have b0:Below w.heap.size w w0:=by rw [V];exact bA
 have k:Hid (LF q P w w0):=⟨c.later b0,But.of_below b0,hq,by rw [V];exact U1 w [_,_] 39⟩;clear V b0 c;refine (X5 w0 q P 8 O0 O0 O0 k.out.rd).mono ?_;rintro e w1 ⟨⟨r,rfl,r0,r1⟩,c,ho⟩;have D:=M4 (k.out.call c ho.but);clear k c ho;have mark:True:=trivial;by_cases h0:r=0
 · subst h0
   go_wp2_with fail
   refine (PO q (P+1) w1 O0 D.out.rd).mono ?_;rintro e A ⟨v2,ms,rfl,Q,hml⟩;have h:=M4 (D.out.call Q.rd Q.bu);obtain ⟨ma,mc,rfl,hat⟩:=Lv Q.row;have n:=M4 hat;have HS:=M4 Q.sm;clear D Q hat
   go_wp2_with fail
   refine (G.c64 ma mc ms A (mk_le HS.out) O0 n.out).mono ?_;rintro e j ⟨rfl,f⟩;have p:=M4 (h.out.later f);have hf:=Bq ms;clear h f n HS;generalize Q3 (G.Db ms)=s at*;have F:=p.out.h1.cell 0;have E:=p.out.h1.cell 1;have W:=p.out.h1.opn 0;have R:=p.out.h1.opn 1;dsimp only [List.getElem?_cons_zero,List.getElem?_cons_succ] at F E;go_wp2;exact p.out.fin O0 K3 O0 _ rfl
 have hr0:(r==0)=false:=by simpa using h0
 by_cases X:r=1\/r=2
 · rcases X with rfl | rfl
   all_goals
    go_wp2_with fail
    refine (X5 w1 q (P+1) 4 O0 O0 O0 D.out.rd).mono ?_;rintro e A ⟨⟨C,rfl,J,N⟩,c,ho⟩;have h:=M4 (D.out.call c ho.but);clear D c ho;obtain ⟨m,rfl⟩:=A8 J;have hdl:(Q3 (Lib.decDigits m)).size<=2:=by rw [J3];exact Sa m O0
    go_wp2_with fail
    refine (Rs m A O0).mono ?_;rintro e j ⟨rfl,f⟩;have p:=M4 (h.out.later f);clear h f;have hsz:(⟨#[116]⟩++Q3 (Lib.decDigits m):ByteArray).size<=4000:=by rw [K9];have R:ByteArray.size ⟨#[116]⟩=1:=rfl;omega
    have hsz2:¬ 9223372036854775807<1+(Q3 (Lib.decDigits m)).size:=O0;generalize Q3 (Lib.decDigits m)=dm at*
    go_wp2_with fail
    refine (MP q (P+1+1) j O0 p.out.rd).mono ?_;rintro e Y ⟨⟨T,a,cap,rfl,hT,TW,hTS⟩,c,f⟩;have H4:=M4 (p.out.call c f);have HT:=M4 hT.to;have HTS:=M4 hTS;clear p c f hT hTS
    go_wp2_with fail
    refine (YB a cap T Y (fun i=>Z4 (HTS.out i) O0) O0 HT.out).mono ?_;rintro e y5 ⟨rfl,f⟩;have U:=M4 (H4.out.later f);have hf:=mi T;clear H4 f HT HTS;generalize Q3 (qd T)=s at*;have F:=U.out.h1.cell 0;have E:=U.out.h1.cell 1;have W:=U.out.h1.opn 0;have R:=U.out.h1.opn 1;dsimp only [List.getElem?_cons_zero,List.getElem?_cons_succ] at F E;go_wp2;exact U.out.fin O0 hsz O0 _ rfl
 have hr1:(r==1)=false:=by simpa using fun e=>X (.inl e)
 have hr2:(r==2)=false:=by simpa using fun e=>X (.inr e)
 by_cases h3:r=3
 · subst h3
   go_upto_region 8 with fail
   refine F7 (S:=fun _=>True) U2 trivial fun g=>?_;obtain ⟨l,I⟩:∃ y:World,y=w1.drew:=⟨_,rfl⟩;rw [<- I];have k:=M4 (D.out.later (by rw [I];exact (F4 _ _).drew):LF q (P+1) w l);clear I D;refine tq 1 g ?_;refine I4 5 g ?_;refine Ma (rs:=[0,2]) U2 X0 (x8 (o:=⟨some 24,.buildSlice 79 3 #[(0,.const (.string ⟨#[101,108,115,101,119,104,101,114,101]⟩)),(1,.const (.string ⟨#[120,48]⟩)),(2,.const (.string ⟨#[103,111,110,101]⟩))],79,_,_,none⟩) rfl (fun K b=>?_) (x8 (o:=⟨some 26,.call ⟨.value (.func 34),#[.tmp 25,.const (.int .i64 3)],#[67,3]⟩,3,_,_,none⟩) rfl (fun K b=>?_) Ra));go_simp;have f:Below l.heap.size l (l.alloc (.cells Jj.toArray 9)):=bA;have n:=M4 (k.out.later f);have CHA:=M4 (U1 l Jj 9);have zT:q<l.heap.size:=k.out.rd.lt;clear k f;refine Z6 b trivial fun g=>?_;clear b K;change wpAnyH _ _ _ _ _ _ _ _ (l.alloc (.cells Jj.toArray 9));generalize l.alloc (.cells Jj.toArray 9)=t at*;generalize l.heap.size=B at*;refine rq 2 fun K b=>?_;go_simp;refine (X5 t q (P+1) 3 O0 O0 O0 n.out.rd).mono ?_;rintro e A ⟨⟨C,rfl,J,N⟩,c,ho⟩;have h:=M4 (n.out.call c ho.but);have L:Hid (Cl A B 9 Jj):=(ho.block _ O0).trans CHA.out;clear n CHA c ho;go_simp;refine Z6 b trivial fun g=>?_;clear b K;revert mark;rotate_left;go_simp;refine (X5 l q (P+1) 3 O0 O0 O0 k.out.rd).mono ?_;rintro e t ⟨⟨C,rfl,J,N⟩,c,ho⟩;have n:=M4 (k.out.call c ho.but);clear k c ho;go_simp;refine Z6 b trivial fun g=>?_;clear b K;refine Ma (rs:=[0,6]) U2 X0 (x8 (o:=⟨some 24,.buildSlice 79 3 #[(0,.const (.string ⟨#[101,108,115,101,119,104,101,114,101]⟩)),(1,.const (.string ⟨#[120,48]⟩)),(2,.const (.string ⟨#[103,111,110,101]⟩))],79,_,_,none⟩) rfl (fun K b=>?_) (x8 (o:=⟨some 30,.call ⟨.value (.func 68),#[.tmp 29],#[67]⟩,9,_,_,none⟩) rfl (fun K b=>?_) Ra));go_simp;have f:Below t.heap.size t (t.alloc (.cells Jj.toArray 9)):=bA;have h:=M4 (n.out.later f);have L:=M4 (U1 t Jj 9);have zT:q<t.heap.size:=n.out.rd.lt;clear n f;refine Z6 b trivial fun g=>?_;clear b K;change wpAnyH _ _ _ _ _ _ _ _ (t.alloc (.cells Jj.toArray 9));generalize t.alloc (.cells Jj.toArray 9)=A at*;generalize t.heap.size=B at*;revert mark;rotate_left;go_simp;refine (qK q (P+1+1) t O0 n.out.rd).mono ?_;rintro e j ⟨⟨x,rfl,hx⟩,c,f⟩;have p:=M4 (n.out.call c f);clear n c f;go_simp;refine Z6 b trivial fun g=>?_;clear b K;refine rq 0 fun K b=>?_;go_simp;have f:Below j.heap.size j (j.alloc (.cells Jj.toArray 9)):=bA;have H:=M4 (p.out.later f);have C4:=M4 (U1 j Jj 9);have zT:q<j.heap.size:=p.out.rd.lt;clear p f;refine Z6 b trivial fun g=>?_;clear b K;change wpAnyH _ _ _ _ _ _ _ _ (j.alloc (.cells Jj.toArray 9));generalize j.alloc (.cells Jj.toArray 9)=Y at*;generalize j.heap.size=B at*;obtain ⟨z,O,hzs⟩:=fe Jj 9 K3 J N;refine I4 3 g ?_;refine rq 4 fun K b=>?_;have d:=(C4.out.cell C.toNat).trans O;go_simp;refine Z6 b trivial fun g=>?_;clear b K d;refine I4 7 g ?_;refine rq 8 fun K b=>?_;have F:=H.out.h1.cell 0;have E:=H.out.h1.cell 1;have W:=H.out.h1.opn 0;have R:=H.out.h1.opn 1;dsimp only [List.getElem?_cons_zero,List.getElem?_cons_succ] at F E;go_simp;refine Z6 b trivial fun g=>?_;clear b K;refine a_ ?_;go_wp2;exact H.out.fin O0 O0 O0 _ rfl
   all_goals
    intro _;have Z:True:=trivial;obtain ⟨z,O,hzs⟩:=fe Jj 9 K3 J N;refine I4 3 g ?_;refine Ma (rs:=[4,6]) U2 X0 (x8 (o:=⟨some 28,.load 9 (.tmp 27),9,_,_,none⟩) rfl (fun K b=>?_) (x8 (o:=⟨some 30,.call ⟨.value (.func 68),#[.tmp 29],#[67]⟩,9,_,_,none⟩) rfl (fun K b=>?_) Ra));have d:=(L.out.cell C.toNat).trans O;go_simp;refine Z6 b trivial fun g=>?_;clear b K d;refine rq 6 fun K b=>?_;go_simp;refine (qK q (P+1+1) A O0 h.out.rd).mono ?_;rintro e j ⟨⟨x,rfl,hx⟩,c,f⟩;have H:=M4 (h.out.call c f);clear h c L;go_simp;refine Z6 b trivial fun g=>?_;clear b K;revert Z;rotate_left;go_simp;refine (qK q (P+1+1) A O0 h.out.rd).mono ?_;rintro e j ⟨⟨x,rfl,hx⟩,c,f⟩;have H:=M4 (h.out.call c f);have C3:Hid (Cl j B 9 Jj):=(f.block _ L.out.lt O0).trans L.out;clear h c L;go_simp;refine Z6 b trivial fun g=>?_;clear b K;refine rq 4 fun K b=>?_;have d:=(C3.out.cell C.toNat).trans O;go_simp;refine Z6 b trivial fun g=>?_;clear b K d;clear C3;revert Z
    all_goals
     intro _;refine I4 7 g ?_;refine rq 8 fun K b=>?_;have F:=H.out.h1.cell 0;have E:=H.out.h1.cell 1;have W:=H.out.h1.opn 0;have R:=H.out.h1.opn 1;dsimp only [List.getElem?_cons_zero,List.getElem?_cons_succ] at F E;go_simp;refine Z6 b trivial fun g=>?_;clear b K;refine a_ ?_;go_wp2;exact H.out.fin O0 O0 O0 _ rfl
 have hr3:(r==3)=false:=by simpa using h3
 go_wp2_with fail
 refine F7 (S:=fun _=>True) U2 trivial fun g=>?_;obtain ⟨l,I⟩:∃ y:World,y=w1.drew:=⟨_,rfl⟩;rw [<- I];have k:=M4 (D.out.later (by rw [I];exact (F4 _ _).drew):LF q (P+1) w l);clear I D;refine tq 0 g ?_;refine I4 4 g ?_;refine rq 1 fun K b=>?_;go_simp;refine (X5 l q (P+1) 3 O0 O0 O0 k.out.rd).mono ?_;rintro e A ⟨⟨C,rfl,J,N⟩,c,ho⟩;have h:=M4 (k.out.call c ho.but);clear k c ho;go_simp;refine Z6 b trivial fun g=>?_;clear b K;obtain ⟨z,O,e2,e3⟩:∃ z:ByteArray,z.size<=1/\(∃ s:ByteArray,(∀ u,(Instr.slice 9 (.string ⟨#[97,98,99]⟩) (some (.int .i64 C)) none none).run prog u=.ok (.string s) u)/\∀ u,(Instr.slice 9 (.string s) none (some (.int .i64 1)) none).run prog u=.ok (.string z) u)/\True:=by
  obtain rfl | rfl | rfl:C=0\/C=1\/C=2:=O0
  · exact ⟨⟨#[97]⟩,K3,⟨⟨#[97,98,99]⟩,fun u=>U2,fun u=>U2⟩,trivial⟩
  · exact ⟨⟨#[98]⟩,K3,⟨⟨#[98,99]⟩,fun u=>U2,fun u=>U2⟩,trivial⟩
  exact ⟨⟨#[99]⟩,K3,⟨⟨#[99]⟩,fun u=>U2,fun u=>U2⟩,trivial⟩
 obtain ⟨s,e4,e5⟩:=e2;refine tq (v:=.string s) 2 g ?_ (hv:=by intro u hu;go_simp)
 try simp only [qq]
 refine tq (v:=.string z) 3 g ?_ (hv:=by intro u hu;go_simp)
 try simp only [qq]
 refine rq 5 fun K b=>?_;go_simp;refine (qK q (P+1+1) A O0 h.out.rd).mono ?_;rintro e j ⟨⟨x,rfl,hx⟩,c,f⟩;have H:=M4 (h.out.call c f);clear h c f;go_simp;refine Z6 b trivial fun g=>?_;clear b K;refine I4 6 g ?_;refine rq 7 fun K b=>?_;have F:=H.out.h1.cell 0;have E:=H.out.h1.cell 1;have W:=H.out.h1.opn 0;have R:=H.out.h1.opn 1;dsimp only [List.getElem?_cons_zero,List.getElem?_cons_succ] at F E;go_simp;refine Z6 b trivial fun g=>?_;clear b K;refine a_ ?_;go_wp2;exact H.out.fin O0 O0 O0 _ rfl
end Go.Proofs.YtdjaajjndfbpmaaGreatDoor
namespace Go.Proofs.YtdjaajjndfbpmaaGreatDoor
open Proofs.Tryz
open Go.RowKit
theorem c4 (a:Option Addr) (L cap:Nat) (w:World) (n:L<=1048576) (m:L<=cap) (h:BytesAt w a L):
 Calls prog 4 #[.slice a L cap] w fun e w'=>VP w e w':=by
 have k:=M4 h;clear h;go_enter func4,ntmps4
 go_wp2_with fail
 obtain ⟨w0,b⟩:∃ y:World,y=w.alloc (.cells #[.slice none 0 0] 25):=⟨_,rfl⟩;rw [<- b];have b0:Below w.heap.size w w0:=by rw [b];exact bA
 have C0:Hid (Cl w0 w.heap.size 25 [.slice none 0 0]):=by show Cl _ _ _ _;rw [b];exact U1 w [_] 25
 clear b;refine (c17 a L cap w0 n m (Cc k.out b0)).mono ?_;rintro e w1 ⟨⟨v,nm,rfl,hv,l⟩,c⟩;have d:=M4 (C0.out.below c C0.out.lt);have B1:=M4 (bT b0 c);have p:=M4 hv;obtain ⟨j,i,f,rfl,_⟩:=hv;clear c C0 b0 k;have g:=d.out.cell 0;have e1:=d.out.opn 0;dsimp only [List.getElem?_cons_zero] at g;go_wp2;have o:=O7 w1 ⟨w.heap.size,0,none⟩ (.slice j f.length i) g;exact K4 (v:=.tuple #[.agg #[.slice j f.length i],.string nm]) (by simp [results,results4,go_sem,o]) rfl ⟨⟨_,nm,rfl,Yf p.out d.out,l⟩,B1.out.setCell P9 _⟩
structure SF (q P:Nat) (w:World) (X F:Nat) (v:Value) (nm tx:ByteArray) (u:World):Prop where
 rd:D6 u q P
 bl:Below w.heap.size w u
 r0:Cl u w.heap.size 25 [.slice none 0 0]
 r1:Cl u (w.heap.size+1) 39 [.string ⟨#[]⟩,.string ⟨#[]⟩]
 hX:Cl u X 25 [v]
 hF:Cl u F 39 [.string nm,.string tx]
 o:w.heap.size+1<q/\q<X/\X<F
variable {q P P' X F:Nat} {w u u':World} {v:Value} {nm tx:ByteArray}
theorem SF.call (h:SF q P w X F v nm tx u) (b:D6 u' q P') (a:But q u u'):SF q P' w X F v nm tx u':=by
 have:=h.o;exact ⟨b,h.bl.trans (a.below O0 h.bl.size),(a.block _ h.r0.lt O0).trans h.r0,(a.block _ h.r1.lt O0).trans h.r1,(a.block _ h.hX.lt O0).trans h.hX,(a.block _ h.hF.lt O0).trans h.hF,h.o⟩
theorem SF.later (h:SF q P w X F v nm tx u) (a:Below u.heap.size u u'):SF q P w X F v nm tx u':=h.call (h.rd.later a) (But.of_below a)
theorem SF.jl (h:SF q P w X F v nm tx u) (a:P<=P'):SF q P' w X F v nm tx u:=h.call (h.rd.mono a) (But.refl _ _)
theorem SF.set {B:Nat} {t:TypeId} {b a:ByteArray} {v' y:Value} (h:SF q P w X F v nm tx u) (j:Nat) (hB:q<B) (hX:Cl (u.setCell ⟨B,j,none⟩ y) X 25 [v']) (hF:Cl (u.setCell ⟨B,j,none⟩ y) F 39 [.string b,.string a]):SF q P w X F v' b a (u.setCell ⟨B,j,none⟩ y):=by
 have:=h.o;exact ⟨J8 h.rd hB _ _,h.bl.setCell (by show w.heap.size<=B;omega) _,h.r0.on (I6 _ _ _ _) O0,h.r1.on (I6 _ _ _ _) O0,hX,hF,h.o⟩
def QO (w:World) (e:Ending) (w':World):Prop:=(∃ (a:Option Addr) (n c:Nat) (nm tx:ByteArray),e=.returned (.tuple #[.agg #[.slice a n c],.agg #[.string nm,.string tx]])/\nm.size<=4000/\tx.size<=4000)/\Below w.heap.size w w'
def QD:List Value:=[.string ⟨#[]⟩,.string ⟨#[120,32,121]⟩]
theorem c14 (a:Option Addr) (L cap:Nat) (w:World) (hL:L<=1048576) (hcap:L<=cap) (h:BytesAt w a L):
 Calls prog 14 #[.slice a L cap] w fun e w'=>QO w e w':=by
 have HB:=M4 h;clear h;go_enter func14,ntmps14
 go_wp2_with fail
 obtain ⟨w0,hw0⟩:∃ y:World,y=(w.alloc (.cells #[.slice none 0 0] 25)).alloc (.cells #[.string ⟨#[]⟩,.string ⟨#[]⟩] 39):=⟨_,rfl⟩;rw [<- hw0];have b0:Below w.heap.size w w0:=by rw [hw0];exact dE _ _ _
 have j:Hid (Cl w0 w.heap.size 25 [.slice none 0 0]):=by show Cl _ _ _ _;rw [hw0];exact J_ (U1 w [_] 25) _
 have i:Hid (Cl w0 (w.heap.size+1) 39 [.string ⟨#[]⟩,.string ⟨#[]⟩]):=by show Cl _ _ _ _;rw [hw0];exact Uf (xs:=[_,_]) X0
 clear hw0;refine (c31 a L cap w0 hL hcap (Cc HB.out b0)).mono ?_;rintro e w1 ⟨rfl,hrd,hb1,hsz⟩;have D1:Hid (D6 w1 w0.heap.size 0):=⟨0,Q6 _,hrd⟩;have b1:=M4 (bT b0 hb1);have j:=M4 (j.out.below hb1 j.out.lt);have R1':=M4 (i.out.below hb1 i.out.lt);have hz0:=i.out.lt;clear hrd hb1 hsz b0 HB i;generalize w0.heap.size=q at*
 go_wp2_with fail
 refine (c32 q 0 w1 O0 D1.out).mono ?_;rintro e I ⟨⟨v,rfl,ht,hk⟩,f,g⟩;have hq1:=D1.out.lt;have b2:=Q0 (b1.out.trans (g.below O0 O0));have j:Hid (Cl I w.heap.size 25 [.slice none 0 0]):=(g.block _ j.out.lt O0).trans j.out;have i:Hid (Cl I (w.heap.size+1) 39 [.string ⟨#[]⟩,.string ⟨#[]⟩]):=(g.block _ R1'.out.lt O0).trans R1'.out;obtain ⟨w3,hw3⟩:∃ y:World,y=I.alloc (.cells #[v] 25):=⟨_,rfl⟩;have b3:Below I.heap.size I w3:=by rw [hw3];exact bA
 have CX:Hid (Cl w3 I.heap.size 25 [v]):=by show Cl _ _ _ _;rw [hw3];exact U1 I [_] 25
 have D3:=M4 (f.later b3);have T3:=M4 (ht.below b3);have j:=M4 (j.out.below b3 j.out.lt);have i:=M4 (i.out.below b3 i.out.lt);have B3:=M4 (bT b2.out b3);have HK:Hid (∀ k,v.ownBlock=some k->k≠q):=fun k e=>by have:=hk k e;omega
 have hqs:q<I.heap.size:=f.lt;obtain ⟨V,c7,U,aW,_⟩:=ht;subst aW;clear hk f g D1 b1 R1' b2 b3
 go_wp2_with fail
 rw [<- hw3];clear hw3;generalize I.heap.size=X at*;refine (PP q (0+1506) w3 O0 D3.out).mono ?_;rintro e H ⟨⟨nm,tx,rfl,Q,htx⟩,f,g⟩;have hq3:=D3.out.lt;obtain ⟨w5,XR⟩:∃ y:World,y=H.alloc (.cells #[.string nm,.string tx] 39):=⟨_,rfl⟩;have b5:Below H.heap.size H w5:=by rw [XR];exact bA
 have hX4:=D7 CX.out.lt g.size;have T5:=M4 ((T3.out.but g HK.out).below b5);have X4:Cl H X 25 [.slice V U.length c7]:=(g.block _ CX.out.lt O0).trans CX.out;have Y0:Cl H w.heap.size 25 [.slice none 0 0]:=(g.block _ j.out.lt O0).trans j.out;have Y1:Cl H (w.heap.size+1) 39 [.string ⟨#[]⟩,.string ⟨#[]⟩]:=(g.block _ i.out.lt O0).trans i.out;have H5:Hid (SF q 1700 w X H.heap.size (.slice V U.length c7) nm tx w5):=⟨(f.mono O0).later b5,(B3.out.trans (g.below O0 B3.out.size)).trans (b5.mono (Z4 B3.out.size g.size)),Y0.below b5 Y0.lt,Y1.below b5 Y1.lt,X4.below b5 X4.lt,by rw [XR];exact U1 H [_,_] 39,O0,hqs,hX4⟩;clear f g D3 T3 CX j i B3 X4 Y0 Y1 b5
 go_wp2_with fail
 rw [<- XR];clear XR;generalize H.heap.size=F at*;refine (X5 w5 q 1700 12 O0 O0 O0 H5.out.rd).mono ?_;rintro e D ⟨⟨r,rfl,r0,r1⟩,f,ho⟩;have c:=M4 (H5.out.call f ho.but);have T6:=M4 (T5.out.but ho.but HK.out);clear f ho H5 T5;have mark:True:=trivial;obtain ⟨o1,o2,o3⟩:=c.out.o;have O:=c.out.hX.cell 0;have k1:=c.out.hX.opn 0;have N:=c.out.hF.cell 0;have J:=c.out.hF.cell 1;have Z:=c.out.hF.opn 0;have Y:=c.out.hF.opn 1;have kl:=c.out.hF.lt;dsimp only [List.getElem?_cons_zero,List.getElem?_cons_succ] at O N J;rcases Ie (r=0) with h0 | h0
 case' inl=>
  subst h0
  go_wp2_with fail
  obtain ⟨y1,hy1⟩:∃ y:World,y=D.alloc (.cells QD.toArray 9):=⟨_,rfl⟩;have b1:Below D.heap.size D y1:=by rw [hy1];exact bA
  have C1:Hid (Cl y1 D.heap.size 9 QD):=by show Cl _ _ _ _;rw [hy1];exact U1 D QD 9
  have H1:=M4 (c.out.later b1);change Calls _ _ _ (D.alloc (.cells QD.toArray 9)) _;rw [<- hy1];have zT:q<D.heap.size:=c.out.rd.lt;clear hy1 b1 O k1 N J Z Y c T6;refine (X5 y1 q (1700+1) 2 O0 O0 O0 H1.out.rd).mono ?_;rintro e E ⟨⟨r2,rfl,GV,r21⟩,f,ho⟩;have b:=M4 (H1.out.call f ho.but);have C2:Hid (Cl E D.heap.size 9 QD):=(ho.block _ O0).trans C1.out;clear f ho H1 C1;generalize D.heap.size=B at*;obtain ⟨z,hz,hzs⟩:=fe QD 3 K3 GV r21;have d:=(C2.out.cell r2.toNat).trans hz;have N:=b.out.hF.cell 0;have Z:=b.out.hF.opn 0;dsimp only [List.getElem?_cons_zero,List.getElem?_cons_succ] at N
  go_wp2_with fail
  have HT:Hid (SF q 2000 w X F (.slice V U.length c7) z tx (E.setCell ⟨F,0,none⟩ (.string z))):=(b.out.set (t:=9) 0 O0 (b.out.hX.on (I6 _ _ _ _) O0) (b.out.hF.set 0 (.string z))).jl O0;generalize E.setCell ⟨F,0,none⟩ (.string z)=y at*;have hs1:z.size<=4000:=O0;have hs2:tx.size<=4000:=htx;clear Q htx b C2 d N Z hz hzs;generalize U.length=l at*;generalize z=C at*;generalize tx=A at*;generalize V=s at*;generalize c7=n at*;revert mark
 case' inr=>
  have hr0:(r==0)=false:=by simpa using h0
  rcases Ie (r=1) with h1 | h1
  case' inl=>
   subst h1
   go_wp2_with fail
   refine (X5 D q (1700+1) 2 O0 O0 O0 c.out.rd).mono ?_;rintro e E ⟨⟨r2,rfl,GV,r21⟩,f,ho⟩;have b:=M4 (c.out.call f ho.but);clear f ho c O k1 N J Z Y kl T6;obtain ⟨m,rfl⟩:=A8 GV;have J:=b.out.hF.cell 1;have Y:=b.out.hF.opn 1;dsimp only [List.getElem?_cons_zero,List.getElem?_cons_succ] at J;have HC:Hid (Calls prog 40 #[.string ⟨#[116]⟩,.int .i64 (300+(m:Int))] E fun e w'=>(∃ x:ByteArray,e=.returned (.string x)/\x.size<=4000)/\w'=E):=by
    have:=c40 ⟨#[116]⟩ (300+m) E K3 O0
    rwa [show ((300+m:Nat):Int)=300+(m:Int) from by omega] at this
   go_wp2_with fail
   refine HC.out.mono ?_;rintro e y3 ⟨⟨z,rfl,hz⟩,hy3⟩;subst hy3
   go_wp2_with fail
   have HT:Hid (SF q 2000 w X F (.slice V U.length c7) nm z (y3.setCell ⟨F,1,none⟩ (.string z))):=(b.out.set (t:=9) 1 O0 (b.out.hX.on (I6 _ _ _ _) O0) (b.out.hF.set 1 (.string z))).jl O0;generalize y3.setCell ⟨F,1,none⟩ (.string z)=y at*;have hs1:nm.size<=4000:=Q;have hs2:z.size<=4000:=hz;clear Q htx b J Y hz HC;generalize U.length=l at*;generalize nm=C at*;generalize z=A at*;generalize V=s at*;generalize c7=n at*;revert mark
  case' inr=>
   have hr1:(r==1)=false:=by simpa using h1
   rcases Ie (r=2) with h2 | h2
   case' inl=>
    subst h2
    go_wp2_with fail
    refine (OP 60 q (1700+1) _ D O0 O0 c.out.rd T6.out).mono ?_;rintro e E ⟨⟨v4,rfl,ht4,hk4⟩,f,g⟩;have b:=M4 (c.out.call f g);obtain ⟨a4,c24,f4,hv4,_⟩:=ht4;subst hv4;clear f g c O k1 N J Z Y kl T6 hk4;have O:=b.out.hX.cell 0;have k1:=b.out.hX.opn 0;dsimp only [List.getElem?_cons_zero] at O
    go_wp2_with fail
    have HT:Hid (SF q 2000 w X F (.slice a4 f4.length c24) nm tx (E.setCell ⟨X,0,none⟩ (.slice a4 f4.length c24))):=(b.out.set (t:=25) 0 O0 (b.out.hX.set 0 _) (b.out.hF.on (I6 _ _ _ _) O0)).jl O0;generalize E.setCell ⟨X,0,none⟩ (.slice a4 f4.length c24)=y at*;have hs1:nm.size<=4000:=Q;have hs2:tx.size<=4000:=htx;clear Q htx b O k1;generalize f4.length=l at*;generalize nm=C at*;generalize tx=A at*;generalize a4=s at*;generalize c24=n at*;revert mark
   case' inr=>
    have hr2:(r==2)=false:=by simpa using h2
    go_wp2_with fail
    have HT:=M4 (c.out.jl (P':=2000) O0);have hs1:nm.size<=4000:=Q;have hs2:tx.size<=4000:=htx;clear Q htx c O k1 N J Z Y kl T6;generalize U.length=l at*;generalize nm=C at*;generalize tx=A at*;generalize V=s at*;generalize c7=n at*;generalize D=y at*;revert mark
 all_goals
  intro _;have VS:Hid (∀ u,SF q 2000 w X F (.slice s l n) C A u->u.cell? ⟨X,0,none⟩=some (.slice s l n)/\u.cell? ⟨F,0,none⟩=some (.string C)/\u.cell? ⟨F,1,none⟩=some (.string A)):=fun u h=>⟨h.hX.cell 0,h.hF.cell 0,h.hF.cell 1⟩;have P:=M4 (HT.out.later (F4 _ y).drew);refine F7 (S:=fun u=>u.cell? ⟨X,0,none⟩=some (.slice s l n)/\u.cell? ⟨F,0,none⟩=some (.string C)/\u.cell? ⟨F,1,none⟩=some (.string A)) U2 (VS.out _ P.out) fun R=>?_;generalize y.drew=z1 at*;refine tq 0 R ?_;refine I4 1 R ?_;refine rq 2 fun K hK=>?_;have d0:=P.out.r0.cell 0;have e0:=P.out.r0.opn 0;dsimp only [List.getElem?_cons_zero] at d0;go_simp;have j:=P.out.r0.set 0 (.slice s l n);have i:=P.out.r1.on (I6 z1 w.heap.size 0 (.slice s l n)) O0;have X1:=P.out.hX.on (I6 z1 w.heap.size 0 (.slice s l n)) O0;have F1:=P.out.hF.on (I6 z1 w.heap.size 0 (.slice s l n)) O0;have B1:=P.out.bl.setCell (p:=⟨w.heap.size,0,none⟩) P9 (.slice s l n);clear R;refine Z6 hK ⟨X1.cell 0,F1.cell 0,F1.cell 1⟩ fun R=>?_;clear hK K d0 e0;generalize z1.setCell ⟨w.heap.size,0,none⟩ (.slice s l n)=W at*;have j:Cl W w.heap.size 25 [.slice s l n]:=j;refine rq 3 fun K hK=>?_;have d0:=i.cell 0;have d1:=i.cell 1;have e0:=i.opn 0;have e1:=i.opn 1;dsimp only [List.getElem?_cons_zero,List.getElem?_cons_succ] at d0 d1;go_simp;have n1:w.heap.size≠w.heap.size+1:=O0;have X2:=(X1.on (I6 W (w.heap.size+1) 0 (.string C)) O0).on (I6 _ (w.heap.size+1) 1 (.string A)) O0;have F2:=(F1.on (I6 W (w.heap.size+1) 0 (.string C)) O0).on (I6 _ (w.heap.size+1) 1 (.string A)) O0;have R2:=(j.on (I6 W (w.heap.size+1) 0 (.string C)) n1).on (I6 _ (w.heap.size+1) 1 (.string A)) n1;have F:=G.N9 W (w.heap.size+1) (.string C) (.string A) _ _ d0 d1;have B2:=(B1.setCell (p:=⟨w.heap.size+1,0,none⟩) (Nat.le_succ _) (.string C)).setCell (p:=⟨w.heap.size+1,1,none⟩) (Nat.le_succ _) (.string A);clear R;refine Z6 hK ⟨X2.cell 0,F2.cell 0,F2.cell 1⟩ fun R=>?_;clear hK K;refine a_ ?_;clear R d0 d1 e0 e1;generalize (W.setCell ⟨w.heap.size+1,0,none⟩ (.string C)).setCell ⟨w.heap.size+1,1,none⟩ (.string A)=z3 at*;go_wp2;have g0:=R2.cell 0;dsimp only [List.getElem?_cons_zero] at g0;exact K4 (v:=.tuple #[.agg #[.slice s l n],.agg #[.string C,.string A]]) (by simp [results,results14,go_sem,g0,F.1,F.2]) rfl ⟨⟨_,_,_,_,_,rfl,hs1,hs2⟩,B2⟩
end Go.Proofs.YtdjaajjndfbpmaaGreatDoor
