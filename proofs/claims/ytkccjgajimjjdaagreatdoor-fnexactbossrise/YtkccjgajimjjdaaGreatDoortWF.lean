import Derived.Test.YtkccjgajimjjdaaGreatDoorvQ
import Derived.Test.YtkccjgajimjjdaaGreatDoorvK
import Derived.Test.YtkccjgajimjjdaaGreatDoortX1
set_option linter.unusedVariables false
set_option maxHeartbeats 8000000
set_option maxRecDepth 100000
namespace Go.Proofs.YtkccjgajimjjdaaGreatDoor
open Proofs.Tryz Go.RowKit
theorem a3H(a:OA)(c:Nat)(K:Int)(w:World):Calls prog 45 #[.slice a 0 c,.int .i64 K] w λe w'=>e=.returned (.int .i64 K)/\w'=w:=by
 go_in
 go_wp2;go_loopw[1,5] (λq i wr=>q=.int .i64 K/\i=.int .i64 0/\wr=w) (λ_ _ _=>0);exact⟨rfl,rfl,rfl⟩;obtain⟨rfl,rfl,h⟩:=hrel;subst h;go_wp2;go_ret;exact⟨rfl,rfl⟩
theorem m45(A B:Nat)(v:Value)(n:Nat)(vs:List Value)(ls:List Nat)(K:Int)(w:World)(h1:1<=K)(h2:K<=50000000000000)(hn:n<=1048576)(hAB:A<=B)(ho:NR A B w 111 6 3 138 4 v n vs ls):
 Calls prog 45 #[v,.int .i64 K] w λe w'=>(e=.returned (.int .i64 (kQ 5 4 ls K n))/\(Ap n vs->MN w' 111 6 3 138 [mB,mT,mI,mT] 3 nE 5 4 K v n vs ls))/\Md A B [111,138] w w':=by
 have O:=U0 ho.le;have HRI:=U0 ho.inn;obtain⟨a,cp,rfl,rfl|⟨g,xs,rfl,hA,hB,C,hl,V⟩⟩:=ho.row
 ·refine(a3H a cp K w).mono ?_;rintro e w'⟨rfl,h⟩;exact⟨⟨by rw[Qn],λ_=>⟨⟨a,cp,rfl,.inl rfl⟩,λi b=>absurd b (y9 _),λi b=>absurd b (y9 _)⟩⟩,h▸Md.refl⟩
 have HC:=U0 C;have HVI:=U0 V;clear C V ho
 go_in
 go_wp2;go_loopw[1,5] (λq i wr=>∃(k:Nat)(ys:List Value),k<=n/\i=.int .i64 k/\q=.int .i64 (kQ 5 4 ls K k)/\n*6<=ys.length/\Hid (Md A B [111,138] w wr)/\Hid (Cl wr g 111 ys)/\Hid (∀i,i<n->ys[i*6+3]?=some (vs.getD i undef))/\Hid (∀i,i<k->∀r x,nE (kQ 5 4 ls K i) (ls.getD i 0) r=some x->ys[i*6+r]?=some x)/\Hid (∀i,i<n->Rw A B wr 138 4 (vs.getD i undef) (ls.getD i 0))/\Hid (Ap n vs->∀i,i<k->Mf wr 138 [mB,mT,mI,mT] (kQ 5 4 ls K i+3) (vs.getD i undef) (ls.getD i 0))) (λ_ i _=>n-(RowKit.intOf i).toNat);exact⟨0,xs,J4 _,rfl,by rw[Qn],hl,Md.refl,HC,HVI,λi h=>absurd h (y9 _),HRI,λ_ i h=>absurd h (y9 _)⟩;obtain⟨k,ys,hk,rfl,rfl,hl,f,t,R,DE,d,j⟩:=hrel;by_cases E:k<n;rotate_left
 ·obtain rfl:k=n:=O0;go_wp2;go_ret;exact⟨⟨rfl,λy=>⟨⟨_,_,rfl,.inr ⟨g,ys,rfl,t.out,λi b=>⟨R.out i b,DE.out i b⟩⟩⟩,j.out y,O.out⟩⟩,f.out⟩
 obtain⟨ai,ci,z,_⟩:=d.out k E;have P:=au (c:=5) (e:=4) (K:=K) O.out k hk;have Q:=U0 (Ru 5 4 ls K k);have Z:=O.out k E;obtain⟨L,eL⟩:∃L,Hid (ls.getD k 0=L):=⟨_,rfl⟩;obtain⟨X,N⟩:∃X,Hid (kQ 5 4 ls K k=X):=⟨_,rfl⟩;rw[eL.out]at z Z
 replace z:=U0 z
 rw[N.out]at P ⊢
 replace Q:=U0 (Q.out.trans (by rw[N.out,eL.out]))
 replace P:K<=X/\X<=K+4194309*(k:Int):=P
 go_wp2_with fail
 refine(zi _ _ O0 O0).mono ?_;rintro e w0⟨rfl,l⟩
 replace f:=U0 (f.out.trans (Md.of l))
 replace t:=U0 (t.out.below l t.out.lt)
 replace d:=U0 (λi b=>(d.out i b).md (Md.of (A:=0) (B:=0) (S:=[]) l))
 replace j:=U0 (λh i b=>(j.out h i b).below l)
 clear l
 go_wp2_with(first|(refine Cc rfl 9 _ _ rfl (p:=k*6) rfl rfl Y1 t.out O0 ?_;intro u0 c0 H;have F:Hid (Cl u0 g 111 (ys.set (k*6) (mT (X)))):=c0;replace f:=U0 (f.out.on hA hB (by simp) H t.out F.out);replace d:=U0 (xB d.out H t.out (by decide));replace j:=U0 (Vy j.out H t.out (by decide));clear H c0)|(refine Cc rfl 3 _ _ rfl (p:=k*6+1) rfl rfl Y1 F.out (by simp only[qj];omega) ?_;intro u1 c1 o1;have s:Hid (Cl u1 g 111 ((ys.set (k*6) (mT (X))).set (k*6+1) (mI (X+1)))):=c1;replace f:=U0 (f.out.on hA hB (by simp) o1 F.out s.out);replace d:=U0 (xB d.out o1 F.out (by decide));replace j:=U0 (Vy j.out o1 F.out (by decide));clear o1 c1))
 refine(zi _ _ O0 O0).mono ?_;rintro e w2⟨rfl,l⟩
 replace f:=U0 (f.out.trans (Md.of l))
 replace s:=U0 (s.out.below l s.out.lt)
 replace d:=U0 (λi b=>(d.out i b).md (Md.of (A:=0) (B:=0) (S:=[]) l))
 replace j:=U0 (λh i b=>(j.out h i b).below l)
 clear l
 go_wp2_with(refine Cc rfl 9 _ _ rfl (p:=k*6+2) rfl rfl Y1 s.out (by simp only[qj];omega) ?_;intro u2 c2 o2;have m:Hid (Cl u2 g 111 (((ys.set (k*6) (mT (X))).set (k*6+1) (mI (X+1))).set (k*6+2) (mT (X+1+1)))):=c2;replace f:=U0 (f.out.on hA hB (by simp) o2 s.out m.out);replace d:=U0 (xB d.out o2 s.out (by decide));replace j:=U0 (Vy j.out o2 s.out (by decide));clear o2 c2;have I:u2.cell? ⟨g,k*6+3,none⟩=some (.slice ai L ci):=by rw[m.out.cell,H_ (show k*6+2≠k*6+3 by omega),H_ (show k*6+1≠k*6+3 by omega),H_ (show k*6≠k*6+3 by omega),R.out k E,z.out])
 clear I;obtain⟨A',B',hr,hA1,hB1,W⟩:=(d.out k E).one hAB;rw[z.out,eL.out]at hr;refine(a4o A' B' (.slice ai L ci) L _ _ O0 O0 Z hr).mono ?_;rintro e U⟨⟨rfl,Y⟩,hm⟩;have u:=U0 Y
 replace j:Hid (Ap n vs->∀i,i<k->Mf U 138 [mB,mT,mI,mT] (kQ 5 4 ls K i+3) (vs.getD i undef) (ls.getD i 0)):=λy i b=>(j.out y i b).keep (λq xs I C=>hm.block q C.lt (by
  rcases D8 q A' with h1|h1
  ·exact .inl h1
  rcases D8 q B' with h2|h2
  ·have h3:=W q h1 h2;rcases y i k (by omega) E (by omega)with J|J
   ·rw[I]at J;cases J
   exact absurd (I.trans h3.symm) J
  exact .inr h2))
 replace d:=U0 (λi b=>(d.out i b).md hm)
 replace f:=U0 (f.out.trans (hm.mono hA1 hB1 (by simp)))
 replace m:Hid (Cl U g 111 (((ys.set (k*6) (mT (X))).set (k*6+1) (mI (X+1))).set (k*6+2) (mT (X+1+1)))):=(hm.ty g 111 _ m.out (by decide)).trans m.out
 clear hm Y W hA1 hB1 hr
 go_wp2_with(refine Cc rfl 3 _ _ rfl (p:=k*6+4) rfl rfl Y1 m.out (by simp only[qj];omega) ?_;intro u3 c3 o3;have o:Hid (Cl u3 g 111 ((((ys.set (k*6) (mT (X))).set (k*6+1) (mI (X+1))).set (k*6+2) (mT (X+1+1))).set (k*6+4) (mI (X+1+1+1+4*(L:Int))))):=c3;replace f:=U0 (f.out.on hA hB (by simp) o3 m.out o.out);replace d:=U0 (xB d.out o3 m.out (by decide));replace u:=U0 (u.out.keep (λq xs _ C=>o3.block q (λe=>by subst e;exact absurd (OH C m.out) (by decide))));replace j:=U0 (Vy j.out o3 m.out (by decide));clear o3 c3)
 refine(zi _ _ O0 O0).mono ?_;rintro e w4⟨rfl,l⟩
 replace f:=U0 (f.out.trans (Md.of l))
 replace o:=U0 (o.out.below l o.out.lt)
 replace d:=U0 (λi b=>(d i b).md (Md.of (A:=0) (B:=0) (S:=[]) l))
 replace j:=U0 (λh i b=>(j h i b).below l)
 replace u:=U0 (u.out.below l)
 go_wp2_with(refine Cc rfl 9 _ _ rfl (p:=k*6+5) rfl rfl Y1 o.out (by simp only[qj];omega) ?_;intro u4 c4 D;have C5:Hid (Cl u4 g 111 (((((ys.set (k*6) (mT (X))).set (k*6+1) (mI (X+1))).set (k*6+2) (mT (X+1+1))).set (k*6+4) (mI (X+1+1+1+4*(L:Int)))).set (k*6+5) (mT (X+1+1+1+4*(L:Int)+1)))):=c4;replace f:=U0 (f.out.on hA hB (by simp) D o.out C5.out);replace d:=U0 (xB d.out D o.out (by decide));replace u:=U0 (u.out.keep (λq xs _ C=>D.block q (λe=>by subst e;exact absurd (OH C o.out) (by decide))));replace j:=U0 (Vy j.out D o.out (by decide));clear D c4)
 have V1:Hid (∀i,i<n->((((((ys.set (k*6) (mT (X))).set (k*6+1) (mI (X+1))).set (k*6+2) (mT (X+1+1))).set (k*6+4) (mI (X+1+1+1+4*(L:Int)))).set (k*6+5) (mT (X+1+1+1+4*(L:Int)+1))))[i*6+3]?=some (vs.getD i undef)):=λi b=>by rw[H_ (show k*6+5≠i*6+3 by omega),H_ (show k*6+4≠i*6+3 by omega),H_ (show k*6+2≠i*6+3 by omega),H_ (show k*6+1≠i*6+3 by omega),H_ (show k*6≠i*6+3 by omega)];exact R i b
 have D1:Hid (∀i,i<k+1->∀r x,nE (kQ 5 4 ls K i) (ls.getD i 0) r=some x->((((((ys.set (k*6) (mT (X))).set (k*6+1) (mI (X+1))).set (k*6+2) (mT (X+1+1))).set (k*6+4) (mI (X+1+1+1+4*(L:Int)))).set (k*6+5) (mT (X+1+1+1+4*(L:Int)+1))))[i*6+r]?=some x):=λi b r x hx=>by
  by_cases e:i=k;rotate_left
  ·have hr:r<6:=by
    rcases r with _|_|_|_|_|_|r
    any_goals omega
    cases hx
   rw[H_ (show k*6+5≠i*6+r by omega),H_ (show k*6+4≠i*6+r by omega),H_ (show k*6+2≠i*6+r by omega),H_ (show k*6+1≠i*6+r by omega),H_ (show k*6≠i*6+r by omega)];exact DE i (by omega) r x hx
  replace e:=e.symm
  subst e;rw[N.out,eL.out]at hx
  match r,hx with
  | 0,hx=>rw[Qo (k*6),H_ (show k*6+5≠k*6 by omega),H_ (show k*6+4≠k*6 by omega),H_ (show k*6+2≠k*6 by omega),H_ (show k*6+1≠k*6 by omega),Po (by omega)];exact hx
  | 1,hx=>rw[H_ (show k*6+5≠k*6+1 by omega),H_ (show k*6+4≠k*6+1 by omega),H_ (show k*6+2≠k*6+1 by omega),Po (by simp only[qj];omega)];exact hx
  | 2,hx=>rw[H_ (show k*6+5≠k*6+2 by omega),H_ (show k*6+4≠k*6+2 by omega),Po (by simp only[qj];omega)];exact hx
  | 3,hx=>cases hx
  | 4,hx=>rw[H_ (show k*6+5≠k*6+4 by omega),Po (by simp only[qj];omega)];exact hx
  | 5,hx=>rw[Po (by simp only[qj];omega)];exact hx
 have I1:Hid (Ap n vs->∀i,i<k+1->Mf u4 138 [mB,mT,mI,mT] (kQ 5 4 ls K i+3) (vs.getD i undef) (ls.getD i 0)):=λy i b=>by
  by_cases e:i=k
  ·replace e:=e.symm
   subst e;rw[N.out,eL.out,z.out];have h:=u.out;rwa[show X+1+1+1=X+3 from by omega]at h
  exact j y i (by omega)
 have hl1:n*6<=((((((ys.set (k*6) (mT (X))).set (k*6+1) (mI (X+1))).set (k*6+2) (mT (X+1+1))).set (k*6+4) (mI (X+1+1+1+4*(L:Int)))).set (k*6+5) (mT (X+1+1+1+4*(L:Int)+1)))).length:=by simp only[qj];exact hl
 go_roundw;exact⟨k+1,_,O0,by go_num,by rw[Q.out];go_num,hl1,f,C5,V1,D1,d,I1⟩;exact Z9
theorem c4(b:Bs)(q:Ba)(l:Int)(w:World)(h0:0<=l)(h1:l<=1048576)(X:Ug b 9223372036854775807)(Y:Gh w b q):
 Calls prog 4 #[.agg (bsV b q).toArray,.int .i64 l] w λe w'=>(∃r:Int,e=.returned (.int .i64 r)/\(0<=r->Ug b 1048576/\b.sf.length+b.lo.length<=1048576))/\Bw w w':=by
 have d:=U0 Y;have c:=U0 X
 go_in
 go_upto_region 1 with fail
 have u:=U0 (X4 w (bsV b q) 35);have P:=U0 (Y6 (w:=w) (o:=.cells (bsV b q).toArray 35));generalize w.alloc (.cells (bsV b q).toArray 35)=V0 at*;have a5:=u.out.cell 5;have a6:=u.out.cell 6;simp only[gz]at a5 a6
 go_wp2_with fail
 refine(c11 q.sa q.la q.sc q.lc b.sf b.lo l V0 h0 h1 c.out.ss c.out.ls c.out.sl c.out.ll (P6 d.out.sf P) (P6 d.out.lo P)).mono ?_;rintro e V1⟨⟨p,rfl,hr⟩,a⟩;have R1:=U0 hr;have O:=U0 (J5 P a);have I:=U0 (u.out.below a u.out.lt);by_cases f:p<0
 ·go_wp2;go_ret;exact⟨⟨-1,rfl,λh=>O0⟩,O⟩
 have t:=R1.out O0;have F1:=U0 (t.1);have F2:=U0 (t.2.1);have C:=U0 (t.2.2.1);have e1:p<=1048576:=by have:=t.2.2.2;omega
 have n1:0<=p:=O0;have a7:=I.out.cell 7;simp only[gz]at a7
 go_wp2_with fail
 refine(c12 q.fa q.fc b.fs p V1 O0 O0 c.out.fz c.out.fl (T.U5 d.out.fs O)).mono ?_;rintro e V2⟨⟨n,rfl,hr⟩,a⟩;have R2:=U0 hr;have N:=U0 (J5 O a);have g:=U0 (I.out.below a I.out.lt);by_cases f:n<0
 ·go_wp2;go_ret;exact⟨⟨-1,rfl,λh=>O0⟩,N⟩
 have A:=R2.out O0;have F4:=U0 (A.1);have F5:=U0 (A.2.1);have e2:n<=1048576:=by have:=A.2.2;omega
 have n2:0<=n:=O0;have a8:=g.out.cell 8;have Z:=g.out.cell 9;have a10:=g.out.cell 10;simp only[gz]at a8 Z a10
 go_wp2_with fail
 refine(c13 q.ta q.ra q.tc q.rc b.s n V2 O0 O0 c.out.st (d.out.st.below N)).mono ?_;rintro e U⟨⟨m,rfl,hr⟩,a⟩;have R3:=U0 hr;have W:=U0 (J5 N a);have H:=U0 (g.out.below a g.out.lt);by_cases f:m<0
 ·go_wp2;go_ret;exact⟨⟨-1,rfl,λh=>O0⟩,W⟩
 have R:=R3.out O0;have F6:=U0 (R.1.1);have e3:m<=1048576:=by have:=R.2;omega
 have n3:0<=m:=O0;have a11:=H.out.cell 11;simp only[gz]at a11
 go_wp2_with fail
 refine(c14 q.ha q.hc b.hd.length m U O0 O0 c.out.hl).mono ?_;rintro e B⟨⟨k,rfl,hr⟩,a⟩
 replace a:Bw U B:=by rw[a];exact G5 _ _
 have R4:=U0 hr;have L:=U0 (J5 W a);have F:=U0 (H.out.below a H.out.lt);by_cases f:k<0
 ·go_wp2;go_ret;exact⟨⟨-1,rfl,λh=>O0⟩,L⟩
 have Q:=R4.out O0;have F7:=U0 (Q.1);have e4:k<=1048576:=by have:=Q.2;omega
 have n4:0<=k:=O0;have a12:=F.out.cell 12;simp only[gz]at a12
 go_wp2_with fail
 refine(c15 q.oa q.oc b.rt k B O0 O0 c.out.rs c.out.rl (P6 d.out.rt L)).mono ?_;rintro e S⟨⟨j,rfl,hr⟩,a⟩
 replace a:Bw B S:=by rw[a];exact G5 _ _
 have R5:=U0 hr;have K:=U0 (J5 L a);have E:=U0 (F.out.below a F.out.lt);by_cases f:j<0
 ·go_wp2;go_ret;exact⟨⟨-1,rfl,λh=>O0⟩,K⟩
 have z:=R5.out O0;have F8:=U0 (z.1);have F9:=U0 (z.2.1);have e5:j<=1048576:=by have:=z.2.2;omega
 have n5:0<=j:=O0;have a13:=E.out.cell 13;simp only[gz]at a13
 go_wp2_with fail
 refine(c16 q.na q.nc b.rn j S O0 O0 c.out.ns c.out.nl (Ff d.out.rn K)).mono ?_;rintro e V6⟨⟨i,rfl,hr⟩,a⟩;have R6:=U0 hr;have J:=U0 (J5 K a);have D:=U0 (E.out.below a E.out.lt);by_cases f:i<0
 ·go_wp2;go_ret;exact⟨⟨-1,rfl,λh=>O0⟩,J⟩
 have y:=R6.out O0;have FA:=U0 (y.1);have FB:=U0 (y.2.1);have e6:i<=1048576:=by have:=y.2.2;omega
 have n6:0<=i:=O0;have a14:=D.out.cell 14;simp only[gz]at a14
 go_wp2_with fail
 refine(c17 q.ja q.jc b.jb i V6 O0 O0 c.out.js c.out.jl (Jm d.out.jb J)).mono ?_;rintro e V7⟨⟨v,rfl,hr⟩,a⟩;have R7:=U0 hr;have V:=U0 (J5 J a);have C7:=U0 (D.out.below a D.out.lt);by_cases f:v<0
 ·go_wp2;go_ret;exact⟨⟨-1,rfl,λh=>O0⟩,V⟩
 have x:=R7.out O0;have FC:=U0 (x.1);have FD:=U0 (x.2.1);have e7:v<=1048576:=by have:=x.2.2;omega
 have n7:0<=v:=O0;go_wp2;go_ret;exact⟨⟨_,rfl,λh=>⟨⟨by have:=C.out;omega,F1.out,by have:=C.out;omega,F2.out,F4.out,F5.out,F6.out,F7.out,F8.out,F9.out,FA.out,FB.out,FC.out,FD.out⟩,C.out⟩⟩,V.out⟩
theorem c33(sa la a b:OA)(sc lc c d:Nat)(sf lo:LB)(w:World)(h1:sf.length<=1048576)(h2:lo.length<=1048576)(o:Z7 w sa sf)(hl:Z7 w la lo)(n:Z7 w a sf)(p:Z7 w b lo):
 Calls prog 33 #[.agg #[.slice sa sf.length sc,.slice la lo.length lc],.agg #[.slice a sf.length c,.slice b lo.length d]] w λe w'=>e=.returned (.bool true)/\Bw w w':=by
 have x:=U0 o;have v:=U0 hl;have u:=U0 n;have t:=U0 p
 go_in
 go_upto_region 1 with fail
 have k:=U0 (U8 (X4 w [vL sa sf.length sc,vL la lo.length lc] 37) (.cells #[vL a sf.length c,vL b lo.length d] 37));have i:Hid (Cl ((w.alloc (.cells #[vL sa sf.length sc,vL la lo.length lc] 37)).alloc (.cells #[vL a sf.length c,vL b lo.length d] 37)) (w.heap.size+1) 37 [vL a sf.length c,vL b lo.length d]):=by show Cl _ _ _ _;have h:=X4 (w.alloc (.cells #[vL sa sf.length sc,vL la lo.length lc] 37)) [vL a sf.length c,vL b lo.length d] 37;simpa using h
 have m:Hid (Bw w ((w.alloc (.cells #[vL sa sf.length sc,vL la lo.length lc] 37)).alloc (.cells #[vL a sf.length c,vL b lo.length d] 37))):=Y6.alloc E5 _;generalize (w.alloc (.cells #[vL sa sf.length sc,vL la lo.length lc] 37)).alloc (.cells #[vL a sf.length c,vL b lo.length d] 37)=y at*;have s:=k.out.cell 0;have r:=i.out.cell 0;simp only[gz]at s r
 go_wp2_with fail
 refine(c37 sa a sc c sf y h1 (P6 x m) (P6 u m)).mono ?_;rintro e V1⟨rfl,f⟩;have l:=U0 (J5 m f);have j:=U0 (k.out.below f k.out.lt);have g:=U0 (i.out.below f i.out.lt);have a1:=j.out.cell 1;have q:=g.out.cell 1;simp only[gz]at a1 q
 go_wp2_with fail
 refine(c37 la b lc d lo V1 h2 (P6 v l) (P6 t l)).mono ?_;rintro e V2⟨rfl,f⟩;have z:=U0 (J5 l f);have C2:=U0 (j.out.below f j.out.lt);have D2:=U0 (g.out.below f g.out.lt);go_wp2;go_ret;exact⟨rfl,z⟩
theorem a3S(x:Rn)(c a:OA)(f b:Nat)(w:World)(hl:x.ls.length<=1048576)(n:S9 w c x.ls)(m:S9 w a x.ls):
 Calls prog 104 #[.agg #[.string x.nm,.int .i64 x.md,.string x.wt,.slice c x.ls.length f,.int .i64 x.cd,.string x.tx],.agg #[.string x.nm,.int .i64 x.md,.string x.wt,.slice a x.ls.length b,.int .i64 x.cd,.string x.tx]] w λe w'=>e=.returned (.bool true)/\Bw w w':=by
 have B:=U0 n;have A:=U0 m
 go_in
 go_upto_region 1 with fail
 have i:=U0 (U8 (X4 w [vS x.nm,vI x.md,vS x.wt,vL c x.ls.length f,vI x.cd,vS x.tx] 111) (.cells #[vS x.nm,vI x.md,vS x.wt,vL a x.ls.length b,vI x.cd,vS x.tx] 111));have g:Hid (Cl ((w.alloc (.cells #[vS x.nm,vI x.md,vS x.wt,vL c x.ls.length f,vI x.cd,vS x.tx] 111)).alloc (.cells #[vS x.nm,vI x.md,vS x.wt,vL a x.ls.length b,vI x.cd,vS x.tx] 111)) (w.heap.size+1) 111 [vS x.nm,vI x.md,vS x.wt,vL a x.ls.length b,vI x.cd,vS x.tx]):=by show Cl _ _ _ _;have h:=X4 (w.alloc (.cells #[vS x.nm,vI x.md,vS x.wt,vL c x.ls.length f,vI x.cd,vS x.tx] 111)) [vS x.nm,vI x.md,vS x.wt,vL a x.ls.length b,vI x.cd,vS x.tx] 111;simpa using h
 have l:Hid (Bw w ((w.alloc (.cells #[vS x.nm,vI x.md,vS x.wt,vL c x.ls.length f,vI x.cd,vS x.tx] 111)).alloc (.cells #[vS x.nm,vI x.md,vS x.wt,vL a x.ls.length b,vI x.cd,vS x.tx] 111))):=Y6.alloc E5 _;generalize (w.alloc (.cells #[vS x.nm,vI x.md,vS x.wt,vL c x.ls.length f,vI x.cd,vS x.tx] 111)).alloc (.cells #[vS x.nm,vI x.md,vS x.wt,vL a x.ls.length b,vI x.cd,vS x.tx] 111)=C at*;have z:=i.out.cell 0;have t:=g.out.cell 0;have a1:=i.out.cell 1;have s:=g.out.cell 1;have a2:=i.out.cell 2;have r:=g.out.cell 2;have y:=i.out.cell 3;have q:=g.out.cell 3;simp only[gz]at z t a1 s a2 r y q
 go_wp2_with fail
 refine(a4x c a f b x.ls C hl (U7 B l) (U7 A l)).mono ?_;rintro e V1⟨rfl,d⟩;have E:=U0 (J5 l d);have k:=U0 (i.out.below d i.out.lt);have j:=U0 (g.out.below d g.out.lt);have v:=k.out.cell 4;have p:=j.out.cell 4;have u:=k.out.cell 5;have o:=j.out.cell 5;simp only[gz]at v p u o
 go_wp2_with fail
 refine(a2J x.cd x.tx V1).mono ?_;rintro e V2⟨rfl,d⟩;have D:=U0 (J5 E d);have C2:=U0 (k.out.below d k.out.lt);have D2:=U0 (j.out.below d j.out.lt);go_wp2;go_ret;exact⟨rfl,D⟩
end Go.Proofs.YtkccjgajimjjdaaGreatDoor
namespace Go.Proofs.YtkccjgajimjjdaaGreatDoor.T
open Proofs.Tryz Go.RowKit
variable{u u' w:World}{B base n size:Nat}{e:TypeId}{A v:Value}{xs:List Value}{gs:List F2}
theorem iF{b j:Nat}{x:Value}(h:w.ownsRow base e size v n xs)(hb:b<base):(w.setCell ⟨b,j,none⟩ x).ownsRow base e size v n xs:=I5 h (λq a=>(O_ w b j x).block q (λe=>by have:=Z4 h a;omega))
def yw(fs:List F2):List Value:=fs.flatMap λx=>[.string x.nm,.string x.tx]
theorem Qr{p:Prop}(h:p):Hid p:=h
theorem jT(fs:List F2)(x:F2):yw (fs++[x])=yw fs++[.string x.nm,.string x.tx]:=by simp[yw]
theorem YC:Inf prog 67 2:=Zc Y1
theorem Ei{t:TypeId}(h:B=w.heap.size):Cl (w.alloc (.cells xs.toArray t)) B t xs:=h▸X4 w xs t
theorem D9(h:w.ownsRow base e size v n xs):∃a c,v=.slice a n c:=by
 rcases h.2 with⟨rfl,rfl⟩|⟨g,cap,cur,rfl,_⟩
 ·exact⟨_,_,rfl⟩
 exact⟨_,_,rfl⟩
theorem W_(h:Below B w u)(g:u.grownBy u' v.ownBlock)(hz:B<=u.heap.size)(hv:∀k,v.ownBlock=some k->B<=k):Below B w u':=
 ⟨g.os.trans h.os,g.tape.trans h.tape,g.output.trans h.output,I8 h.size g.size,λk a=>(g.block k O0 (λe=>by have:=hv k e.symm;omega)).trans (h.block k a)⟩
structure W6(w:World)(A v:Value)(gs:List F2)(u:World):Prop where
 b:Bw w u
 h0:Cl u w.heap.size 40 [A]
 h1:Cl u (w.heap.size+1) 40 [.slice none 0 0]
 h2:Cl u (w.heap.size+1+1) 40 [v]
 ho:u.ownsRow (w.heap.size+3) 67 2 v gs.length (yw gs)
theorem W6.below(h:W6 w A v gs u)(a:Bw u u'):W6 w A v gs u':=
 ⟨h.b.trans (a.mono h.b.size),h.h0.below a h.h0.lt,h.h1.below a h.h1.lt,h.h2.below a h.h2.lt,ownsRow_below h.ho a⟩
theorem W6.app{v':Value}{x:F2}(h:W6 w A v gs u)(hr:u'.ownsRow (w.heap.size+3) 67 2 v' (gs.length+1) (yw gs++[.string x.nm,.string x.tx]))(d:u.grownBy u' v.ownBlock):Below (w.heap.size+3) u u'/\W6 w A v' (gs++[x]) (u'.setCell ⟨w.heap.size+1+1,0,none⟩ v'):=by
 have k:∀j,v.ownBlock=some j->w.heap.size+3<=j:=λj e=>(h.ho.lt j e).1;have hB:=W_ (G5 (w.heap.size+3) u) d h.h2.lt k;have c2:=h.h2.below hB O0;have c:=(G5 (w.heap.size+1+1) u').setCell (p:=(aA (w.heap.size+1+1) 0)) X7 v';have a:Below (w.heap.size+1+1) u _:=(hB.mono O0).trans c;refine⟨hB,h.b.trans (a.mono O0),h.h0.below a O0,h.h1.below a O0,c2.set 0 v',?_⟩;rw[P9,jT];exact iF hr O0
def nq(nm:BY)(y:F2):Bool:=!(y.nm.toList==nm.toList)
theorem a2y(a:OA)(cap:Nat)(fs:List F2)(nm:BY)(w:World)(hl:fs.length<=1000)(r:G6 w a fs):
 Calls prog 175 #[.agg #[.slice a fs.length cap],.string nm] w λe w'=>(∃v gs,e=.returned (.agg #[v])/\w'.ownsRow w.heap.size 67 2 v gs.length (yw gs)/\gs.length<=fs.length/\(∀x∈gs,x∈fs)/\gs=fs.filter (nq nm))/\Bw w w':=by
 obtain⟨b,off,hc⟩:=v_ r;have A:=Qr hc;clear hc r
 go_in
 go_wp2;go_loopw[6] (λi wr=>∃(k:Nat)(v:Value)(gs:List F2),i=.int .i64 k/\k<=fs.length/\gs.length<=k/\Hid (gs=(fs.take k).filter (nq nm))/\Hid (W6 w (.slice a fs.length cap) v gs wr)) (λi _=>fs.length-(RowKit.intOf i).toNat);exact⟨0,_,[],rfl,J4 _,J8 _,rfl,⟨(Y6.alloc E5 _).alloc Q8 _,U8 (U8 (X4 w [_] 40) _) _,U8 (Ei (xs:=[_]) E5) _,Ei (xs:=[_]) E5,Y_ _ _ _ _⟩⟩;obtain⟨k,v,gs,rfl,hk,hg,h,H⟩:=hrel;obtain⟨va,j,rfl⟩:=D9 H.out.ho;have E:=H.out.h0.cell 0;have t:=H.out.h1.cell 0;have f1:=H.out.h1.opn 0;have D:=H.out.h2.cell 0;dsimp only[List.getElem?_cons_zero]at E t D;by_cases f:k<fs.length;rotate_left
 ·go_wp2;have C:=Pg wr (aA (w.heap.size+1) 0) (vL va gs.length j) t;refine Q7 (v:=.agg #[vL va gs.length j]) (by simp[results,results175,go_sem,C]) rfl ⟨⟨_,gs,rfl,Ag (iF H.out.ho O0) O0,O0,(λx hx=>by rw[h.out]at hx;exact zA (Iq.1 hx).1),by rw[h.out,C_ O0]⟩,H.out.b.setCell E5 _⟩
 obtain⟨ha,q,l⟩:=Jd A.out f;subst ha;have g0:=(H.out.b.cell (by exact q)).trans (l k f).1;have g1:=(H.out.b.cell (by exact q)).trans (l k f).2;have z:Hid (fs.take (k+1)=fs.take k++[fs.getD k G9]):=by show _=_;rw[Gz f];simp[List.getD,f]
 generalize fs.getD k G9=x at*;clear l A;cases hne:(x.nm.toList==nm.toList);rotate_left
 ·have p:Hid (gs=(fs.take (k+1)).filter (nq nm)):=by show _=_;rw[z.out,Zu,<- h.out];simp[nq,hne]
  go_wp2;go_roundw;exact⟨k+1,_,gs,by go_num,O0,O0,p,H⟩;exact Z9
 go_wp2_with fail
 refine Qd (S:=λu=>u.cell? (aA (w.heap.size+1+1) 0)=some (vL va gs.length j)/\u.cell? (aW w 0)=some (vL (some (aA b off)) fs.length cap)/\u.cell? (aA b (off+k*2))=some (vS x.nm)/\u.cell? (aA b (off+k*2+1))=some (vS x.tx)) 10 Y1 ?_ λhH=>?_
 · ((try dsimp only);go_keep)
 refine lq 0 hH ?_;refine lq 1 hH ?_;refine lq 2 hH ?_;refine lq 3 hH ?_;refine lq 4 hH ?_;refine lq 5 hH ?_
 try simp only[qq]
 refine lq 6 hH ?_
 try simp only[qq]
 refine lr (i:=7) (o:=⟨some 30,.buildSlice 38 1 #[(0,.tmp 29)],38,_,_,none⟩) rfl Z5 Y1 λK c=>?_;go_simp;obtain⟨y,g⟩:∃y:World,y=(wr.alloc (.cells #[vS x.nm,vS x.tx] 67)).drew:=⟨_,rfl⟩;rw[<- g];have m:Bw wr y:=by rw[g];exact Y6.drew
 have p:Hid (Cl y wr.heap.size 67 [vS x.nm,vS x.tx]):=by show Cl _ _ _ _;rw[g];exact X4 wr _ 67
 have d:=Qr (H.out.below m);have hbz:=H.out.b.size;have e0:=(m.cell (by show b<_;omega)).trans g0;have e1:=(m.cell (by show b<_;omega)).trans g1;clear g hH;refine A8 c ?_ λhH=>?_
 ·exact⟨d.out.h2.cell 0,d.out.h0.cell 0,e0,e1⟩
 clear c K;refine lr (i:=8) (o:=⟨some 31,.call ⟨.builtin .append,#[.tmp 24,.tmp 30],#[38,38]⟩,38,_,_,none⟩) rfl Z5 Y1 λK c=>?_;refine Ea rfl _ _ 38 rfl (w.heap.size+3) 67 2 underlying38 YC Z5 _ gs.length _ rfl d.out.ho _ 1 [vS x.nm,vS x.tx] rfl (.inr ⟨(aW wr 0),1,rfl,rfl,Ti p.out⟩) (by simp[Value.oneCell']) O0 d.out.h2.lt ?_;intro v' y2 n g2 _;obtain⟨va',vc',rfl⟩:=D9 n;obtain⟨hB,s⟩:=d.out.app (x:=x) n g2;have c2:=d.out.h2.below hB O0;have F:=Qr s;clear s n g2 hH;refine A8 c ?_ λhH=>?_
 ·exact⟨c2.cell 0,(d.out.h0.below hB O0).cell 0,(hB.cell (by show b<_;omega)).trans e0,(hB.cell (by show b<_;omega)).trans e1⟩
 clear c K;refine lq 9 hH ?_
 try simp only[qq]
 refine lz (o:=⟨none,.store 38 (.tmp 32) (.tmp 31),0,_,_,none⟩) rfl Y1 λK c=>?_;have B:=c2.cell 0;have zf:=c2.opn 0;dsimp only[List.getElem?_cons_zero]at B;go_simp;clear hH;refine c.out _ _ ?_;clear c K
 try simp only[qq]
 refine ig Y1 ?_ _;go_wp2;go_roundw;exact⟨k+1,_,gs++[x],by go_num,O0,Q8,by show _=_;rw[z.out,Zu,<- h.out];simp[nq,hne],F⟩;exact Z9
end Go.Proofs.YtkccjgajimjjdaaGreatDoor.T
namespace Go.Proofs.YtkccjgajimjjdaaGreatDoor
open Proofs.Tryz Go.RowKit
theorem c62(x y:St)(ta ra l rb:OA)(tc rc m rd:Nat)(w:World)(hx:x.ts.length<=1048576/\x.rs.length<=1048576/\∀i,(x.rs.getD i h_).gs.length<=1048576)(hy:y.ts.length<=1048576/\y.rs.length<=1048576/\∀i,(y.rs.getD i h_).gs.length<=1048576)(hat:Ef w ta ra x)(hat':Ef w l rb y):
 Calls prog 62 #[.agg #[.int .i64 x.wd,.slice ta x.ts.length tc,.slice ra x.rs.length rc],.agg #[.int .i64 y.wd,.slice l y.ts.length m,.slice rb y.rs.length rd]] w λe w'=>Rb (x=y) e/\Bw w w':=by
 obtain⟨x1,x2,Z⟩:=hx;obtain⟨y1,y2,W⟩:=hy;have X3:=U0 Z;have Y3:=U0 W;have HA:=U0 hat;have HA':=U0 hat';clear Z W hat hat'
 go_in
 go_upto_region 1 with fail
 have v:=U0 (U8 (X4 w [vI x.wd,vL ta x.ts.length tc,vL ra x.rs.length rc] 43) (.cells #[vI y.wd,vL l y.ts.length m,vL rb y.rs.length rd] 43));have u:Hid (Cl ((w.alloc (.cells #[vI x.wd,vL ta x.ts.length tc,vL ra x.rs.length rc] 43)).alloc (.cells #[vI y.wd,vL l y.ts.length m,vL rb y.rs.length rd] 43)) (w.heap.size+1) 43 [vI y.wd,vL l y.ts.length m,vL rb y.rs.length rd]):=by show Cl _ _ _ _;have h:=X4 (w.alloc (.cells #[vI x.wd,vL ta x.ts.length tc,vL ra x.rs.length rc] 43)) [vI y.wd,vL l y.ts.length m,vL rb y.rs.length rd] 43;simpa using h
 have C:Hid (Bw w ((w.alloc (.cells #[vI x.wd,vL ta x.ts.length tc,vL ra x.rs.length rc] 43)).alloc (.cells #[vI y.wd,vL l y.ts.length m,vL rb y.rs.length rd] 43))):=Y6.alloc E5 _;generalize (w.alloc (.cells #[vI x.wd,vL ta x.ts.length tc,vL ra x.rs.length rc] 43)).alloc (.cells #[vI y.wd,vL l y.ts.length m,vL rb y.rs.length rd] 43)=V at*;have L:=v.out.cell 0;have A:=u.out.cell 0;have a1:=v.out.cell 1;have s:=u.out.cell 1;have a2:=v.out.cell 2;have n:=u.out.cell 2;simp only[gz]at L A a1 s a2 n;by_cases hw:x.wd=y.wd;rotate_left
 ·have g:Hid (¬x=y):=λh=>hw (by rw[h]);go_wp2;go_ret;exact⟨X5 g.out,C.out⟩
 by_cases d:x.ts.length=y.ts.length;rotate_left
 ·have g:Hid (¬x=y):=λh=>d (by rw[h]);have hn1:¬(x.ts.length:Int)=y.ts.length:=O0;go_wp2;go_ret;exact⟨X5 g.out,C.out⟩
 by_cases hm:x.rs.length=y.rs.length;rotate_left
 ·have g:Hid (¬x=y):=λh=>hm (by rw[h]);have hn1:¬(x.rs.length:Int)=y.rs.length:=O0;rw[<- d]at s;go_wp2;go_ret;exact⟨X5 g.out,C.out⟩
 have HW:=U0 hw;have N:=U0 d;have O:=U0 hm;rw[<- hw]at A;rw[<- d]at s;rw[<- hm]at n;obtain⟨b,off,hc⟩:=La HA.out.1;obtain⟨b',off',q⟩:=La HA'.out.1;have S:=U0 hc;have R:=U0 q;have t:=U0 v.out.lt;have B:=U0 u.out.lt;clear hc q v u d hm hw;go_wp2;go_loopw[5] (λi wr=>∃(k:Nat),k<=x.ts.length/\i=.int .i64 k/\Hid (∀j,j<k->x.ts.getD j ByteArray.empty=y.ts.getD j ByteArray.empty)/\Below V.heap.size V wr) (λi _=>x.ts.length-(RowKit.intOf i).toNat);exact⟨0,J4 _,rfl,λj h=>absurd h (y9 _),G5 _ _⟩;obtain⟨k,hk2,rfl,hd,a⟩:=hrel
 replace L:=(a.cell (by exact t.out)).trans L
 replace a1:=(a.cell (by exact t.out)).trans a1
 replace a2:=(a.cell (by exact t.out)).trans a2
 replace A:=(a.cell (by exact B.out)).trans A
 replace s:=(a.cell (by exact B.out)).trans s
 replace n:=(a.cell (by exact B.out)).trans n
 have z:=U0 (J5 C.out a);by_cases f:k<x.ts.length
 ·obtain⟨ha,F,p⟩:=Jd S.out f;rcases R.out with D|⟨J,E,o⟩
  ·have d:=N.out;rw[D]at d;rw[d]at f;exact absurd f (y9 _)
  subst ha;subst J;have g0:=(z.out.cell (by exact F)).trans (p k f);have g0':=(z.out.cell (by exact E)).trans (o k (by have:=N.out;omega));clear p o;by_cases c:x.ts.getD k ByteArray.empty=y.ts.getD k ByteArray.empty
  ·have Q:Hid (∀j,j<k+1->x.ts.getD j ByteArray.empty=y.ts.getD j ByteArray.empty):=λj hj=>by
    rcases D8 j k with h|h
    ·exact hd.out j h
    obtain rfl:j=k:=O0;exact c
   rw[<- c]at g0';generalize x.ts.getD k ByteArray.empty=X at*;clear c hd
   go_wp2_with fail
   go_region
   all_goals go_wp2
   all_goals go_roundw
   all_goals first
    | exact⟨k+1,O0,by go_num,Q,a.drew⟩
    | (exact Z9)
  have g:Hid (¬x=y):=λh=>c (by rw[h]);generalize x.ts.getD k ByteArray.empty=X at*;generalize y.ts.getD k ByteArray.empty=Y at*;have q':=V_.2 (Mc c)
  go_wp2_with fail
  go_region
  all_goals go_wp2
  all_goals go_ret
  all_goals exact⟨X5 g.out,z.out.drew⟩
 obtain rfl:k=x.ts.length:=O0;have HX:=U0 (Xo N.out hd.out);obtain⟨b,off,hc⟩:=Gf HA.out.2;obtain⟨b',off',q⟩:=Gf HA'.out.2;have S:=U0 hc;have R:=U0 q;have U:=U0 a;clear hc q hd a;go_wp2;go_loopw[6] (λi wr'=>∃(k:Nat),k<=x.rs.length/\i=.int .i64 k/\Hid (∀j,j<k->x.rs.getD j h_=y.rs.getD j h_)/\Below wr.heap.size wr wr') (λi _=>x.rs.length-(RowKit.intOf i).toNat);exact⟨0,J4 _,rfl,λj h=>absurd h (y9 _),G5 _ _⟩;obtain⟨k,hk2,rfl,hd,a⟩:=hrel
 replace a2:=(a.cell (by have:=U.out.size;have:=t.out;exact U9 t.out U.out.size)).trans a2
 replace n:=(a.cell (by exact U9 B.out U.out.size)).trans n
 have r:=U0 (J5 z.out a);by_cases f:k<x.rs.length;rotate_left
 ·obtain rfl:k=x.rs.length:=O0;have HR:Hid (x=y):=by
   have h1:=HW.out;have h2:=HX.out;have h3:=Xo O.out hd.out;obtain⟨_,_,_⟩:=x;obtain⟨_,_,_⟩:=y;dsimp only at h1 h2 h3;subst h1 h2 h3;rfl
  go_wp2;go_ret;exact⟨J_ HR.out,r.out⟩
 obtain⟨ha,F,p⟩:=Jd S.out f;rcases R.out with D|⟨J,E,o⟩
 ·have d:=O.out;rw[D]at d;rw[d]at f;exact absurd f (y9 _)
 subst ha;subst J;obtain⟨ai,ci,g0,g1,g2,g3⟩:=(p k f).below F r.out;obtain⟨bi,di,p0,p1,p2,p3⟩:=(o k (by have:=O.out;omega)).below E r.out;have G3:=U0 g3;have P3:=U0 p3;have hx3:=X3.out k;have hy3:=Y3.out k;clear p o g3 p3;by_cases c:x.rs.getD k h_=y.rs.getD k h_
 ·have Q:Hid (∀j,j<k+1->x.rs.getD j h_=y.rs.getD j h_):=λj hj=>by
   rcases D8 j k with h|h
   ·exact hd.out j h
   obtain rfl:j=k:=O0;exact c
  have P:=U0 c;generalize x.rs.getD k h_=X at*;generalize y.rs.getD k h_=Y at*;clear c hd
  go_wp2_with fail
  go_region_with(go_at_call 117;refine(c117 X Y ai bi ci di _ hx3 hy3 (I9 G3.out (G5 _ _).drew) (I9 P3.out (G5 _ _).drew)).mono ?_;rintro e w1⟨⟨K,rfl,H⟩,I⟩;obtain rfl:K=true:=H.2 P.out)
  all_goals go_wp2
  all_goals go_roundw
  all_goals first
   | exact⟨k+1,O0,by go_num,Q,(a.drew).trans (I.mono a.size)⟩
   | (exact Z9)
 have g:Hid (¬x=y):=λh=>c (by rw[h]);have P:=U0 c;generalize x.rs.getD k h_=X at*;generalize y.rs.getD k h_=Y at*;clear c hd
 go_wp2_with fail
 go_region_with(go_at_call 117;refine(c117 X Y ai bi ci di _ hx3 hy3 (I9 G3.out (G5 _ _).drew) (I9 P3.out (G5 _ _).drew)).mono ?_;rintro e w1⟨⟨K,rfl,H⟩,I⟩;obtain rfl:K=false:=Ji.2 (λh=>P.out (H.1 h)))
 all_goals go_wp2
 all_goals go_ret
 all_goals exact⟨X5 g.out,(r.out.drew).trans (I.mono r.out.size)⟩
def oP(s:BY):Prop:=s=⟨#[]⟩\/X6 s.data.toList=true
def Zg(r:Rn):Prop:=yg r.ls/\(((r.md=0\/r.md=1)/\(r.cd=0/\r.tx=⟨#[]⟩)/\oP r.wt)\/(r.md=2/\vr r.cd r.tx.data.toList=true/\r.wt=⟨#[]⟩))
theorem Zk{s:BY}(h:¬s=⟨#[]⟩):(s.toList==([]:List UInt8))=false:=V_.2 (λe=>h (by
 apply Xf;rw[ByteArray.toList_eq]at e;exact Zl.1 e))
theorem c212(x:Rn)(c:OA)(b:Nat)(w:World):
 Calls prog 212 #[.agg #[.string x.nm,.int .i64 x.md,.string x.wt,.slice c x.ls.length b,.int .i64 x.cd,.string x.tx]] w λe w'=>Rb (x.md=1/\x.wt=⟨#[]⟩) e/\Bw w w':=by
 go_in
 go_upto_region 1 with fail
 have f:=U0 (X4 w [vS x.nm,vI x.md,vS x.wt,vL c x.ls.length b,vI x.cd,vS x.tx] 111);have d:=U0 (Y6 (w:=w) (o:=.cells #[vS x.nm,vI x.md,vS x.wt,vL c x.ls.length b,vI x.cd,vS x.tx] 111));generalize w.alloc (.cells #[vS x.nm,vI x.md,vS x.wt,vL c x.ls.length b,vI x.cd,vS x.tx] 111)=V at*;have a1:=f.out.cell 1;have a2:=f.out.cell 2;simp only[gz]at a1 a2;by_cases h1:x.md=1;rotate_left
 ·have a:Hid (¬(x.md=1/\x.wt=⟨#[]⟩)):=λh=>h1 h.1;go_wp2;go_ret;exact⟨X5 a,d⟩
 rw[h1]at a1;by_cases h2:x.wt=⟨#[]⟩
 ·have g:Hid (x.md=1/\x.wt=⟨#[]⟩):=⟨h1,h2⟩;rw[h2]at a2;go_wp2;go_ret;exact⟨J_ g,d⟩
 have a:Hid (¬(x.md=1/\x.wt=⟨#[]⟩)):=λh=>h2 h.2;have z:=Zk h2;go_wp2;go_ret;exact⟨by first|exact X5 a.out|(rw[z];exact X5 a)|(simp only[z];exact X5 a.out),d⟩
theorem a3o(x:Rn)(c:OA)(f:Nat)(w:World)(y:x.le 1048576)(A:S9 w c x.ls):
 Calls prog 151 #[.agg #[.string x.nm,.int .i64 x.md,.string x.wt,.slice c x.ls.length f,.int .i64 x.cd,.string x.tx]] w λe w'=>Rb (Zg x) e/\Bw w w':=by
 have F:=U0 A;have g:=U0 y
 go_in
 go_upto_region 1 with fail
 have n:=U0 (X4 w [vS x.nm,vI x.md,vS x.wt,vL c x.ls.length f,vI x.cd,vS x.tx] 111);have t:=U0 (Y6 (w:=w) (o:=.cells #[vS x.nm,vI x.md,vS x.wt,vL c x.ls.length f,vI x.cd,vS x.tx] 111));generalize w.alloc (.cells #[vS x.nm,vI x.md,vS x.wt,vL c x.ls.length f,vI x.cd,vS x.tx] 111)=V at*;have C:=n.out.cell 3;simp only[gz]at C
 go_wp2_with fail
 refine(a1i c f x.ls V g.out.2.2.1.1 g.out.2.2.1.2 (U7 F t)).mono ?_;rintro e w1⟨⟨B,rfl,i⟩,r⟩;have d:=U0 (n.out.below r n.out.lt);have b:=U0 (J5 t r);have a1:=d.out.cell 1;have a2:=d.out.cell 2;have j:=d.out.cell 4;have s:=d.out.cell 5;simp only[gz]at a1 a2 j s
 cases B with
 | false=>
  have a:Hid (¬Zg x):=λh=>by have:=i.2 h.1;cases this
  go_wp2;go_ret;exact⟨X5 a.out,b.out⟩
 | true=>
 have m:=U0 (i.1 rfl);clear i;by_cases hm:x.md=0\/x.md=1
 ·by_cases hc:x.cd=0;rotate_left
  ·have a:Hid (¬Zg x):=λh=>by
    rcases h.2 with⟨_,k,_⟩|⟨k,_⟩
    ·exact hc k.1
    rw[k]at hm;omega
   rcases hm with hm|hm
   all_goals
    rw[hm]at a1;go_wp2;go_ret;exact⟨X5 a,b⟩
  by_cases ht:x.tx=⟨#[]⟩;rotate_left
  ·have a:Hid (¬Zg x):=λh=>by
    rcases h.2 with⟨_,k,_⟩|⟨k,_⟩
    ·exact ht k.2
    rw[k]at hm;omega
   have z:=Zk ht;have z1:=V_.1 z;rw[hc]at j;rcases hm with hm|hm
   all_goals
    rw[hm]at a1;go_wp2;go_ret;exact⟨X5 a,b⟩
  rw[hc]at j;rw[ht]at s;by_cases hw:x.wt=⟨#[]⟩
  ·have l:Hid (Zg x):=⟨m,.inl ⟨hm,⟨hc,ht⟩,.inl hw⟩⟩;rw[hw]at a2;rcases hm with hm|hm
   all_goals
    rw[hm]at a1;go_wp2;go_ret;exact⟨J_ l,b⟩
  have z:=Zk hw;have E:Hid (X6 x.wt.data.toList=true↔Zg x):=⟨λh=>⟨m,.inl ⟨hm,⟨hc,ht⟩,.inr h⟩⟩,λh=>by
   rcases h.2 with⟨_,_,k⟩|⟨k,_⟩
   ·exact k.resolve_left hw
   rw[k]at hm;omega⟩
  rcases hm with hm|hm
  all_goals
   rw[hm]at a1
   go_wp2_with fail
   refine(c148 x.wt w1 (by have:=g.out.2.1;omega)).mono ?_;rintro e u⟨rfl,v⟩;obtain rfl:=v.symm;go_wp2;go_ret;exact⟨⟨_,rfl,E⟩,b⟩
 by_cases h2:x.md=2;rotate_left
 ·have a:Hid (¬Zg x):=λh=>by
   rcases h.2 with⟨k,_⟩|⟨k,_⟩
   ·exact hm k
   exact h2 k
  have m0:¬x.md=0:=λh=>hm (.inl h);have m1:¬x.md=1:=λh=>hm (.inr h);go_wp2;go_ret;exact⟨X5 a,b⟩
 rw[h2]at a1;have D:=U0 (c203 x.cd x.tx w1 (by have:=g.out.2.2.2;omega))
 go_wp2_with fail
 refine D.out.mono ?_;rintro e u⟨rfl,q⟩;have H:=U0 (d.out.below q d.out.lt);have p:=U0 (J5 b q);have a2:=H.out.cell 2;simp only[gz]at a2;by_cases hv:vr x.cd x.tx.data.toList=true;rotate_left
 ·have a:Hid (¬Zg x):=λh=>by
   rcases h.2 with⟨k,_⟩|⟨_,k,_⟩
   ·exact hm k
   exact hv k
  rw[Ji.2 hv];go_wp2;go_ret;exact⟨X5 a,p⟩
 rw[hv];by_cases hw:x.wt=⟨#[]⟩
 ·have l:Hid (Zg x):=⟨m,.inr ⟨h2,hv,hw⟩⟩;rw[hw]at a2;go_wp2;go_ret;exact⟨J_ l,p⟩
 have z:=Zk hw;have a:Hid (¬Zg x):=λh=>by
  rcases h.2 with⟨k,_⟩|⟨_,_,k⟩
  ·exact hm k
  exact hw k
 go_wp2;go_ret;exact⟨by first|exact X5 a.out|(rw[z];exact X5 a)|(simp only[z];exact X5 a.out),p⟩
end Go.Proofs.YtkccjgajimjjdaaGreatDoor
namespace Go.Proofs.YtkccjgajimjjdaaGreatDoor.T
open Proofs.Tryz Go.RowKit
variable{w u:World}{base size n:Nat}{e t:TypeId}{v:Value}{xs:List Value}
theorem row0(w:World)(e:TypeId)(size:Nat)(a:base<=w.heap.size):(w.alloc (.cells #[] e)).ownsRow base e size (.slice (some ⟨w.heap.size,0,none⟩) 0 0) 0 []:=
 ⟨E5,.inr ⟨w.heap.size,0,#[],rfl,a,heap_alloc_new w _,J8 _,Z5,E5,E5⟩⟩
theorem tV(fs:List F2)(k:Nat)(h:k<fs.length):(yw fs)[k*2]?=some (.string (fs.getD k G9).nm):=by
 induction fs generalizing k with
 | nil=>cases h
 | cons x r ih=>
  cases k with
  | zero=>simp[yw]
  | succ k=>
   have:=ih k (by simpa using h);rw[Tj];simpa[yw]using this
theorem wL(a b:List F2):yw (a++b)=yw a++yw b:=Qs
theorem OU(l:List F2)(k:Nat):yw (l.take k)=(yw l).take (k*2):=by
 induction l generalizing k with
 | nil=>simp[yw]
 | cons x r ih=>
  cases k with
  | zero=>simp[yw]
  | succ k=>rw[Tj];have:=ih k;simp[yw]at this ⊢;exact this
theorem aS(l:List F2)(k:Nat):yw (l.drop k)=(yw l).drop (k*2):=by
 induction l generalizing k with
 | nil=>simp[yw]
 | cons x r ih=>
  cases k with
  | zero=>simp[yw]
  | succ k=>rw[Tj];have:=ih k;simp[yw]at this ⊢;exact this
theorem yK(h:w.ownsRow base e size v n xs)(i m:Nat)(b:i+m<=n)(c cap:Nat)(a:OA)(hv:v=.slice a n cap)(hc:m=0\/cap≠i)(d:∀g,v.ownBlock=some g->u.heap[g]?=w.heap[g]?):Src u (.slice (if cap=i then a else a.map (·.add (i*size))) m c) size m ((xs.drop (i*size)).take (m*size)):=by
 rcases h.2 with⟨h1,h2⟩|⟨g,cp,cur,h1,hb,k,hnc,hcm,hcs,f⟩
 ·subst h2;obtain rfl:=Nat.le_zero.1 (I8 (Nat.le_add_left m i) b);have:a=none:=by rw[h1]at hv;injection hv with h;exact h.symm
  subst this;exact .inl ⟨⟨c,E5⟩,rfl,E5⟩
 have:a=some ⟨g,0,none⟩/\cap=cp:=by rw[h1]at hv;injection hv with h h2 h3;exact⟨h.symm,h3.symm⟩
 obtain⟨rfl,rfl⟩:=this;by_cases h0:m=0
 ·subst h0;refine .inr ⟨if cap=i then⟨g,0,none⟩ else(⟨g,0,none⟩:Addr).add (i*size),c,by split<;>rfl,E5,λj x e=>by simp at e⟩
 rw[Y7 (hc.resolve_left h0)];have hm:(i+m)*size<=n*size:=Io _ b;rw[Nat.add_mul]at hm;refine .inr ⟨(⟨g,0,none⟩:Addr).add (i*size),c,rfl,by simp;have:=h.1;omega,λj x e=>?_⟩;rw[Gw]at e;split at e;rotate_left
 ·cases e
 rw[fF,<- f,Gw]at e;split at e;rotate_left
 ·cases e
 rw[Bo,Bo,Lib.cell_of_heap ((d g (by rw[h1];rfl)).trans k)];simpa using e
theorem a0X{va:OA}{a:Nat}{gs:List F2}(h:w.ownsRow base 67 2 (.slice va gs.length a) gs.length (yw gs)){k:Nat}(c:k<gs.length):∃g,va=some ⟨g,0,none⟩/\w.cell? ⟨g,k*2,none⟩=some (.string (gs.getD k G9).nm):=by
 rcases h.2 with⟨h1,h2⟩|⟨g,cp,cur,h1,hb,d,hnc,hcm,hcs,b⟩
 ·omega
 injection h1 with h1 _ _;refine⟨g,h1,?_⟩;have e:=tV gs k c;rw[<- b,Gw,L8 O0]at e;rw[Lib.cell_of_heap d,<- e];simp
theorem a1K(ht:prog.underlying t=some (.slice e))(he:prog.elem t=e)(hz:∀u,(sizeOf e).run prog u=.ok size u)(h:w.ownsRow base e size v n xs){k:Nat}(hk:k<=n):∃v',(∀u,(Instr.slice t v none (some (.int .i64 (k:Int))) none).run prog u=.ok v' u)/\∀u,(∀g,v.ownBlock=some g->u.heap[g]?=w.heap[g]?)->Src u v' size k (xs.take (k*size)):=by
 obtain⟨a,cap,hv⟩:=D9 h;have hc:n<=cap:=by
  rcases h.2 with⟨h1,h2⟩|⟨g,cp,cur,h1,hb,hg,hnc,_⟩
  ·omega
  rw[h1]at hv;injection hv with _ _ h3;omega
 subst hv;refine⟨vL (if cap=0 then a else a.map (·.add (0*size))) k cap,λu=>?_,λu b=>?_⟩
 ·rw[run_slice_h u t a n cap (by rw[he];exact ht) .i64 k O0 O0,he,hz];simp[sliced,Result.andThen]
 have:=yK h 0 k O0 cap cap a rfl O0 b;simpa using this
theorem a2e(ht:prog.underlying t=some (.slice e))(he:prog.elem t=e)(hz:∀u,(sizeOf e).run prog u=.ok size u)(h:w.ownsRow base e size v n xs){k:Nat}(hk:k<=n):∃v',(∀u,(Instr.slice t v (some (.int .i64 (k:Int))) none none).run prog u=.ok v' u)/\∀u,(∀g,v.ownBlock=some g->u.heap[g]?=w.heap[g]?)->Src u v' size (n-k) (xs.drop (k*size)):=by
 obtain⟨a,cap,hv⟩:=D9 h;have hc:n<=cap:=by
  rcases h.2 with⟨h1,h2⟩|⟨g,cp,cur,h1,hb,hg,hnc,_⟩
  ·omega
  rw[h1]at hv;injection hv with _ _ h3;omega
 subst hv;refine⟨vL (if cap=k then a else a.map (·.add (k*size))) (n-k) (cap-k),λu=>?_,λu b=>?_⟩
 ·rw[run_slice_l u t a n cap (by rw[he];exact ht) .i64 k O0 O0,he,hz];simp[sliced,Result.andThen]
 have:=yK h k (n-k) O0 (cap-k) cap a rfl O0 b;rw[C_ (by simp[h.1,Nat.sub_mul])]at this;exact this
structure W9(w:World)(A:Value)(x:F2)(u:World):Prop where
 b:Bw w u
 h0:Cl u w.heap.size 40 [A]
 h1:Cl u (w.heap.size+1) 67 [.string x.nm,.string x.tx]
 h2:Cl u (w.heap.size+1+1) 40 [.slice none 0 0]
theorem W9.below{w:World}{A:Value}{x:F2}{u u':World}(h:W9 w A x u)(a:Bw u u'):W9 w A x u':=
 ⟨h.b.trans (a.mono h.b.size),h.h0.below a h.h0.lt,h.h1.below a h.h1.lt,h.h2.below a h.h2.lt⟩
def a1e(gs:List F2)(x:F2)(k:Nat):Prop:=∀j,j<k->lt (gs.getD j G9).nm x.nm=true
def Stop(gs:List F2)(x:F2)(k:Nat):Prop:=k<gs.length->lt (gs.getD k G9).nm x.nm=false
theorem mY{fs gs:List F2}{x:F2}{k:Nat}(ht:D_ fs)(hf:Xa x=true)(d:gs=fs.filter (nq x.nm))(hl:gs.length<40)(c:k<=gs.length)(a:a1e gs x k)(b:Stop gs x k):Vp fs x 0 (gs.take k++[x]++gs.drop k):=by
 have e:without fs x.nm=gs:=d.symm;refine .inr (.inr (.inr ⟨ht,hf,by rw[e];exact hl,rfl,k,?_,?_⟩))
 ·rw[e];refine⟨c,a,?_⟩;rcases D8 k gs.length with h|h
  ·exact .inr (b h)
  exact .inl O0
 rw[e];unfold ins;simp
def a2K(w:World)(fs:List F2)(x:F2)(e:Ending)(w':World):Prop:=∃v c gs,e=.returned (.tuple #[.agg #[v],.int .i64 c])/\w'.ownsRow w.heap.size 67 2 v gs.length (yw gs)/\gs.length<=40/\(∀y∈gs,y∈fs\/y=x)/\Vp fs x c gs
theorem YF(gs:List F2):∀v∈yw gs,v.oneCell'=true:=λv hv=>by
 obtain⟨x,_,h⟩:=Gv.1 hv;simp at h;rcases h with rfl|rfl<;>rfl
theorem wZ{w w':World}{b:Nat}{t:TypeId}{xs:List Value}{g:Nat}{n c:Nat}(h:Cl w b t xs)(d:w.grownBy w' (Value.slice (some ⟨g,0,none⟩) n c).ownBlock)(a:b≠g):Cl w' b t xs:=(d.block b h.lt (λe=>a (I_ e))).trans h
theorem a0H{w u:World}{x:F2}{fs:List F2}(g:u.cell? ⟨w.heap.size+1+1,0,none⟩=some (.slice none 0 0))(b:Bw w u)(c:Int)(hc:Vp fs x c [])(a:Array Value)(f:a[4]?=some (.pointer (some ⟨w.heap.size+1+1,0,none⟩)))(d:a[5]?=some (.int .i64 c)):bodyPost prog f129 (λe w'=>a2K w fs x e w'/\Bw w w') .ret ⟨a,[]⟩ u:=
 Q7 (v:=.tuple #[.agg #[vN],vI c]) (by simp[results,results129,go_sem,g,f,d]) rfl ⟨⟨_,_,[],rfl,Y_ _ _ _ _,E5,(λy h=>nomatch h),hc⟩,b⟩
theorem a4K(a:OA)(cap:Nat)(fs:List F2)(x:F2)(w:World)(hl:fs.length<=1000)(hs:∀i,(fs.getD i G9).le 4000)(hx:x.le 4000)(hat:G6 w a fs):
 Calls prog 129 #[.agg #[.slice a fs.length cap],.agg #[.string x.nm,.string x.tx]] w λe w'=>a2K w fs x e w'/\Bw w w':=by
 have HAT:=Qr hat;clear hat
 go_in
 go_wp2_with fail
 obtain⟨W,hW⟩:∃W:World,W=((w.alloc (.cells #[vL a fs.length cap] 40)).alloc (.cells #[vS x.nm,vS x.tx] 67)).alloc (.cells #[vN] 40):=⟨_,rfl⟩;rw[<- hW];have H:Hid (W9 w (vL a fs.length cap) x W):=by
  rw[hW];exact⟨(Y6.alloc E5 _).alloc Q8 _,U8 (U8 (X4 w [_] 40) _) _,U8 (Ei (xs:=[_,_]) E5) _,Ei (xs:=[_]) E5⟩
 clear hW;refine(a0G a cap fs W O0 (λi=>⟨I8 (hs i).1 O0,I8 (hs i).2 O0⟩) (U5 HAT.out H.out.b)).mono ?_;rintro e w1⟨⟨b,rfl,hbt⟩,hb1⟩;have L:=Qr (H.out.below hb1);have HTT:=Qr hbt.1;have HTN:=Qr hbt.2;clear H hbt hb1;have E:=L.out.h0.cell 0;have r:=L.out.h1.cell 0;have q:=L.out.h1.cell 1;have m:=L.out.h2.cell 0;have Q:=L.out.h2.opn 0;simp only[gz]at E r q m;cases b
 ·go_wp2;exact a0H (Pg _ _ _ m) (L.out.b.setCell (by show _<=w.heap.size+1+1;omega) _) 1 (.inl ⟨λh=>absurd (HTN.out h) Z5,rfl,rfl⟩) _ rfl rfl
 have HTR:=Qr (HTT.out rfl);clear HTT
 go_wp2_with fail
 refine(c74 x w1 ⟨I8 hx.1 O0,I8 hx.2 O0⟩).mono ?_;rintro e w2⟨rfl,hb2⟩;have s:=Qr (L.out.below hb2);clear L hb2 E r q m Q;have E:=s.out.h0.cell 0;have r:=s.out.h1.cell 0;have q:=s.out.h1.cell 1;have m:=s.out.h2.cell 0;have Q:=s.out.h2.opn 0;simp only[gz]at E r q m;cases hf:Xa x
 ·go_wp2;exact a0H (Pg _ _ _ m) (s.out.b.setCell (by show _<=w.heap.size+1+1;omega) _) 2 (.inr (.inl ⟨HTR.out,hf,rfl,rfl⟩)) _ rfl rfl
 go_wp2_with fail
 refine(a2y a cap fs x.nm w2 hl (U5 HAT.out s.out.b)).mono ?_;rintro e D⟨⟨v,gs,rfl,hr,hg,hsub,hfi⟩,hb3⟩;have HFI:=Qr hfi;have HFO:=Qr hf;have A:=Qr (s.out.below hb3);have J:=Qr hr;have a7b:=Qr hsub;have hz2:=s.out.b.size;have h2l:=s.out.h2.lt;clear s hb3 hr hsub hfi E r q m Q hf;obtain⟨va,O,rfl⟩:=D9 J.out;have E:=A.out.h0.cell 0;have r:=A.out.h1.cell 0;have q:=A.out.h1.cell 1;have m:=A.out.h2.cell 0;have Q:=A.out.h2.opn 0;simp only[gz]at E r q m;have hz3:=A.out.h2.lt;have hz1:=A.out.h1.lt;by_cases hbig:40<=gs.length
 ·go_wp2;exact a0H ((Aj _ _ _ Q8).trans (Pg _ _ _ m)) ((A.out.b.setCell (by show _<=w.heap.size+1+1;omega) _).alloc Q8 _) 3 (.inr (.inr (.inl ⟨HTR.out,HFO.out,(by show 40<=(fs.filter (nq x.nm)).length;rw[<- HFI.out];exact hbig),rfl,rfl⟩))) _ rfl rfl
 obtain⟨w4,hw4⟩:∃u:World,u=D.alloc (.cells #[vL va gs.length O] 40):=⟨_,rfl⟩;have hb4:Bw D w4:=by rw[hw4];exact Y6
 have R:Hid (Cl w4 D.heap.size 40 [vL va gs.length O]):=by show Cl _ _ _ _;rw[hw4];exact X4 D [_] 40
 have H4:=Qr (A.out.below hb4);have HR4:=Qr (ownsRow_below J.out hb4)
 go_wp2_with fail
 rw[<- hw4];clear hw4;have hz4:=R.out.lt;clear E r q m Q A J;go_loopw[7] (λi wr=>Hid (Below w4.heap.size w4 wr)/\∃k:Nat,i=.int .i64 k/\k<=gs.length/\Hid (a1e gs x k)) (λi _=>gs.length-(RowKit.intOf i).toNat);exact⟨G5 _ _,0,rfl,J4 _,λj h=>absurd h (y9 _)⟩;obtain⟨V,k,rfl,hk,HU⟩:=hrel;have H:=Qr (H4.out.below V.out);have R:=Qr (R.out.below V.out R.out.lt);have J:=Qr (ownsRow_below HR4.out V.out);clear H4 HR4;have hz1:=H.out.h2.lt;have hz4:=R.out.lt;have r:=H.out.h1.cell 0;have q:=H.out.h1.cell 1;have m:=H.out.h2.cell 0;have Q:=H.out.h2.opn 0;have d3:=R.out.cell 0;simp only[gz]at r q m d3;have HST:Hid (∀kk:Nat,kk<gs.length->∃g,va=some ⟨g,0,none⟩/\wr.cell? ⟨g,kk*2,none⟩=some (vS (gs.getD kk G9).nm)):=λkk hkk=>a0X J.out hkk;have HOW:Hid (∀y,Bw wr y->∀g,(Value.slice va gs.length O).ownBlock=some g->y.heap[g]?=wr.heap[g]?):=λy d g e=>d.block g (J.out.lt g e).2;have p:Hid (∀y,Bw wr y->y.cell? ⟨D.heap.size,0,none⟩=some (vL va gs.length O)/\y.cell? ⟨w.heap.size+1,0,none⟩=some (vS x.nm)/\y.cell? ⟨w.heap.size+1,1,none⟩=some (vS x.tx)):=λy d=>⟨(d.cell hz4).trans d3,(d.cell (by show w.heap.size+1<_;omega)).trans r,(d.cell (by show w.heap.size+1<_;omega)).trans q⟩;have hcase:(∃g,k<gs.length/\va=some ⟨g,0,none⟩/\wr.cell? ⟨g,k*2,none⟩=some (vS (gs.getD k G9).nm))\/k=gs.length:=by
  rcases D8 k gs.length with h|h
  ·obtain⟨g,h1,h2⟩:=HST.out k h;exact .inl ⟨g,h,h1,h2⟩
  exact .inr O0
 clear HST;have mark:=trivial;rcases hcase with⟨g,hlt,rfl,hgc⟩|hlt
 case' inl=>
  have HL1:Hid (Op.bytesLess (gs.getD k G9).nm.toList x.nm.toList=true->a1e gs x (k+1)):=λh j hj=>by
   rcases D8 j k with h1|h1
   ·exact HU.out j h1
   obtain rfl:j=k:=O0;exact h
  have HL0:Hid (Op.bytesLess (gs.getD k G9).nm.toList x.nm.toList=false->Stop gs x k):=λh _=>h;generalize (gs.getD k G9).nm=nk at*
  go_wp2_with fail
  refine wp_region_held_drew (S:=λu=>u.cell? ⟨D.heap.size,0,none⟩=some (vL (some ⟨g,0,none⟩) gs.length O)/\u.cell? ⟨w.heap.size+1,0,none⟩=some (vS x.nm)/\u.cell? ⟨g,k*2,none⟩=some (vS nk)) Y1 ?_ λhH=>?_
  · ((try dsimp only);go_keep)
  iterate 16 refine sq ?_
  refine wdn ?_;clear hH hgc;go_simp;generalize (Op.bytesLess nk.toList x.nm.toList)=lb at*;cases lb;rotate_left
  ·have HU:=Qr (HL1.out rfl);clear HL1 HL0;go_wp2;go_roundw;exact⟨V.out.trans ((G5 _ _).drew.mono V.out.size),k+1,by go_num,O0,HU⟩;exact Z9
  have HS:=Qr (HL0.out rfl);clear HL1 HL0
  go_wp2_with fail
  clear hlt;generalize (some (⟨g,0,none⟩:Addr))=va at*;revert mark
 case' inr=>
  have hnl:decide (k<gs.length)=false:=o_ O0;have HS:Hid (Stop gs x k):=λh=>absurd h O0;clear hlt
  go_wp2_with fail
  refine wp_region_held_drew (S:=λu=>u.cell? ⟨D.heap.size,0,none⟩=some (vL va gs.length O)) Y1 ?_ λhH=>?_
  · ((try dsimp only);go_keep)
  iterate 16 refine sq ?_
  refine wdn ?_
  go_wp2_with fail
  revert mark
 all_goals
  intro _;obtain⟨v47,hs1,SR1⟩:=a1K (t:=38) underlying38 Y1 (λu=>sizeOf67 u) J.out hk;obtain⟨v55,hs2,SR2⟩:=a2e (t:=38) underlying38 Y1 (λu=>sizeOf67 u) J.out hk;have S1:Hid (∀y,Bw wr y->Src y v47 2 k ((yw gs).take (k*2))):=λy d=>SR1 y (HOW.out y d);have S2:Hid (∀y,Bw wr y->Src y v55 2 (gs.length-k) ((yw gs).drop (k*2))):=λy d=>SR2 y (HOW.out y d);clear SR1 SR2;refine wp_region_held_drew (S:=λu=>u.cell? ⟨D.heap.size,0,none⟩=some (vL va gs.length O)/\u.cell? ⟨w.heap.size+1,0,none⟩=some (vS x.nm)/\u.cell? ⟨w.heap.size+1,1,none⟩=some (vS x.tx)) Y1 ?_ λhH=>?_
  ·exact p.out _ (G5 _ wr).drew.drew
  obtain⟨u,hu⟩:∃u:World,u=wr.drew.drew:=⟨_,rfl⟩;rw[<- hu]at hH ⊢;have Lu:Bw wr u:=by rw[hu];exact(G5 _ wr).drew.drew
  clear hu;refine tq 1 hH ?_;refine tq 2 hH ?_;refine p_ 3 ?_;refine tq 4 hH ?_;refine p_ 6 ?_;refine tq 9 hH ?_;refine tq 10 hH ?_;refine p_ 11 ?_;refine p_ 12 ?_;have a6v:=trivial;have row:Hid (∀y,Bw wr y->Bw wr (y.alloc (.cells #[] 67))/\(y.alloc (.cells #[] 67)).ownsRow wr.heap.size 67 2 (vL (some ⟨y.heap.size,0,none⟩) 0 0) 0 []):=λy d=>⟨d.alloc d.size _,row0 y 67 2 d.size⟩;refine wpAnyH_ready (rs:=[0,7]) Y1 E5 (AllReadyH.cons (o:=⟨some 43,.buildSlice 38 0 #[],38,_,_,none⟩) rfl (λK c=>?_) (AllReadyH.cons (o:=⟨some 50,.buildSlice 38 1 #[(0,.tmp 49)],38,_,_,none⟩) rfl (λK c=>?_) AllReadyH.nil));rotate_left;go_simp;obtain⟨f,C⟩:∃y:World,y=u.alloc (.cells #[vS x.nm,vS x.tx] 67):=⟨_,rfl⟩;rw[<- C];have by1:Bw u f:=by rw[C];exact Y6
  have Cy1:Hid (Cl f u.heap.size 67 [vS x.nm,vS x.tx]):=by show Cl _ _ _ _;rw[C];exact X4 u _ 67
  have z:=J5 Lu by1;clear C hH;refine A8 c ?_ λhH=>?_
  ·exact p.out _ z
  clear c K;refine rq 0 λK c=>?_;go_simp;obtain⟨n,B⟩:∃y:World,y=f.alloc (.cells #[] 67):=⟨_,rfl⟩;rw[<- B];have X:Bw f n:=by rw[B];exact Y6
  have U:=Qr (row.out f z).2;rw[<- B]at U;have l:=J5 z X;clear B hH;have N:=Qr (Cy1.out.below X Cy1.out.lt);refine A8 c ?_ λhH=>?_
  ·exact p.out _ l
  clear c K;refine rq 5 λK c=>?_;refine Ea rfl _ _ 38 rfl wr.heap.size 67 2 underlying38 YC Z5 _ 0 [] rfl U.out _ k _ rfl (S1.out n l) (λv hv=>YF gs v (zA hv)) O0 l.size ?_;intro v48 y3 F P _;have I:=W_ l P l.size (λj e=>(U.out.lt j e).1);have F:=Qr F;have N:=Qr (wZ N.out P (by have:=Cy1.out.lt;omega));clear P hH;refine A8 c ?_ λhH=>?_
  ·exact p.out _ I
  clear c K;generalize u.heap.size=B5 at N ⊢;revert a6v;rotate_left;go_simp;obtain⟨f,C⟩:∃y:World,y=u.alloc (.cells #[] 67):=⟨_,rfl⟩;rw[<- C];have by1:Bw u f:=by rw[C];exact Y6
  have Ey1:=Qr (row.out u Lu).2;rw[<- C]at Ey1;have z:=J5 Lu by1;clear C hH;refine A8 c ?_ λhH=>?_
  ·exact p.out _ z
  clear c K;refine wpAnyH_ready (rs:=[5,7]) Y1 E5 (AllReadyH.cons (o:=⟨some 48,.call ⟨.builtin .append,#[.tmp 43,.tmp 47],#[38,38]⟩,38,_,_,none⟩) rfl (λK c=>?_) (AllReadyH.cons (o:=⟨some 50,.buildSlice 38 1 #[(0,.tmp 49)],38,_,_,none⟩) rfl (λK c=>?_) AllReadyH.nil));refine Ea rfl _ _ 38 rfl wr.heap.size 67 2 underlying38 YC Z5 _ 0 [] rfl Ey1.out _ k _ rfl (S1.out f z) (λv hv=>YF gs v (zA hv)) O0 z.size ?_;intro v48 n Ry2 gy2 _;have l:=W_ z gy2 z.size (λj e=>(Ey1.out.lt j e).1);have Ry2:=Qr Ry2;clear gy2 hH;refine A8 c ?_ λhH=>?_
  ·exact p.out _ l
  clear c K;refine rq 7 λK c=>?_;go_simp;obtain⟨y3,hy3⟩:∃y:World,y=n.alloc (.cells #[vS x.nm,vS x.tx] 67):=⟨_,rfl⟩;rw[<- hy3];have by3:Bw n y3:=by rw[hy3];exact Y6
  have N:Hid (Cl y3 n.heap.size 67 [vS x.nm,vS x.tx]):=by show Cl _ _ _ _;rw[hy3];exact X4 n _ 67
  have I:=J5 l by3;clear hy3 hH;have F:=Qr (ownsRow_below Ry2.out by3);refine A8 c ?_ λhH=>?_
  ·exact p.out _ I
  clear c K;generalize n.heap.size=B5 at N ⊢;revert a6v;rotate_left;go_simp;obtain⟨n,B⟩:∃y:World,y=f.alloc (.cells #[vS x.nm,vS x.tx] 67):=⟨_,rfl⟩;rw[<- B];have X:Bw f n:=by rw[B];exact Y6
  have Cy2:Hid (Cl n f.heap.size 67 [vS x.nm,vS x.tx]):=by show Cl _ _ _ _;rw[B];exact X4 f _ 67
  have l:=J5 z X;clear B hH;have U:=Qr (ownsRow_below Ey1.out X);refine A8 c ?_ λhH=>?_
  ·exact p.out _ l
  clear c K;refine rq 5 λK c=>?_;refine Ea rfl _ _ 38 rfl wr.heap.size 67 2 underlying38 YC Z5 _ 0 [] rfl U.out _ k _ rfl (S1.out n l) (λv hv=>YF gs v (zA hv)) O0 l.size ?_;intro v48 y3 F P _;have I:=W_ l P l.size (λj e=>(U.out.lt j e).1);have F:=Qr F;have N:=Qr (wZ Cy2.out P (by have:u.heap.size<f.heap.size:=(Ey1.out.lt _ rfl).2;omega));clear P hH;refine A8 c ?_ λhH=>?_
  ·exact p.out _ I
  clear c K;generalize f.heap.size=B5 at N ⊢;revert a6v
  all_goals
   intro _;refine rq 8 λK c=>?_;refine Ea rfl _ _ 38 rfl wr.heap.size 67 2 underlying38 YC Z5 _ (0+k) _ rfl F.out _ 1 [vS x.nm,vS x.tx] rfl (.inr ⟨⟨B5,0,none⟩,1,rfl,rfl,Ti N.out⟩) (by simp[Value.oneCell']) O0 I.size ?_;intro v51 y4 Ry4 gy4 _;have Z:=W_ I gy4 I.size (λj e=>(F.out.lt j e).1);have Ry4:=Qr Ry4;clear gy4 hH;refine A8 c ?_ λhH=>?_
   ·exact p.out _ Z
   clear c K;refine rq 13 λK c=>?_;refine Ea rfl _ _ 38 rfl wr.heap.size 67 2 underlying38 YC Z5 _ (0+k+1) _ rfl Ry4.out _ (gs.length-k) _ rfl (S2.out y4 Z) (λv hv=>YF gs v (qJ hv)) O0 Z.size ?_;intro v56 y5 Y gy5 _;rw[show 0+k+1+(gs.length-k)=gs.length+1 from by omega,j_]at Y;have Ly5:=W_ Z gy5 Z.size (λj e=>(Ry4.out.lt j e).1);obtain⟨va5,vc5,rfl⟩:=D9 Y;have Y:=Qr Y;clear gy5 hH;refine A8 c ?_ λhH=>?_
   ·exact p.out _ Ly5
   clear c K;refine sq ?_;refine rq 15 λK c=>?_;have C5:=H.out.h2.below Ly5 hz1;have e2:=C5.cell 0;have e3:=C5.opn 0;dsimp only[List.getElem?_cons_zero]at e2;obtain⟨s1,s2,s3⟩:=p.out y5 Ly5;go_simp;clear hH;refine A8 c ?_ λhH=>?_
   ·exact⟨(Xb _ _ _ _ (by simp<;>omega)).trans s1,(Xb _ _ _ _ E5).trans s2,(Xb _ _ _ _ E5).trans s3⟩
   clear c K;refine sq ?_;refine wdn ?_;clear hH;go_wp2;have er:=Pg y5 ⟨w.heap.size+1+1,0,none⟩ (vL va5 (gs.length+1) vc5) e2;refine Q7 (v:=.tuple #[.agg #[vL va5 (gs.length+1) vc5],vO]) (by simp[results,results129,go_sem,er]) rfl ⟨⟨_,0,gs.take k++[x]++gs.drop k,rfl,?_,Q8,(λy d=>?_),mY HTR.out HFO.out HFI.out O0 hk HU.out HS.out⟩,?_⟩
   ·have h:=Ag (iF (b:=w.heap.size+1+1) (j:=0) (x:=vL va5 (gs.length+1) vc5) Y.out O0) (B':=w.heap.size) O0;have e1:(gs.take k++[x]++gs.drop k).length=gs.length+1:=Q8;rw[e1,wL,wL,OU,aS];exact h
   ·simp only[Dh,Dk]at d;rcases d with(h|h)|h
    ·exact .inl (a7b.out y (zA h))
    ·exact .inr h
    exact .inl (a7b.out y (qJ h))
   exact(H.out.b.trans (Ly5.mono H.out.b.size)).setCell (by show w.heap.size<=w.heap.size+1+1;omega) _
