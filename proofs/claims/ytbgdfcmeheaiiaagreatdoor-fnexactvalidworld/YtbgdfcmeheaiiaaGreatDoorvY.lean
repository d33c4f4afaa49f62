import Derived.Test.YtbgdfcmeheaiiaaGreatDoorpC
import Derived.Test.YtbgdfcmeheaiiaaGreatDooreEU
import Derived.Test.YtbgdfcmeheaiiaaGreatDooreES
import Derived.Lib.AppendZeros
import Derived.Stop.Asserts
import Derived.RowKitTokens
set_option linter.unusedVariables false
set_option linter.unusedSimpArgs false
set_option maxHeartbeats 8000000
set_option maxRecDepth 100000
namespace Go.Proofs.YtbgdfcmeheaiiaaGreatDoor.G
open Proofs.Tryz Go.RowKit
section
variable{w:World}{l:LB}{b s:BY}
def zG(w:World)(a:OA)(l:LB):Prop:=l=[]\/∃b off,a=some ⟨b,off,none⟩/\b<w.heap.size/\∀i,i<l.length->w.cell? ⟨b,off+i,none⟩=some (.string (l.getD i ⟨#[]⟩))
theorem gI{a:OA}(h:zG w a l):∃b off,(l=[]\/(a=some ⟨b,off,none⟩/\b<w.heap.size/\∀i,i<l.length->w.cell? ⟨b,off+i,none⟩=some (.string (l.getD i ⟨#[]⟩)))):=by
 rcases h with h|⟨b,off,h⟩
 ·exact⟨0,0,.inl h⟩
 exact⟨b,off,.inr h⟩
def yO(l:LB)(s:BY):Bool:=l.any λx=>decide (x=s)
theorem Rh:yO l s=true↔s∈l:=by
 simp[yO]
theorem c45(a:OA)(q:Nat)(l:LB)(s:BY)(w:World)(hl:l.length<=1000)(p:zG w a l):
 Calls prog 45 #[.slice a l.length q,.string s] w λe w'=>e=.returned (.bool (yO l s))/\w'=w:=by
 obtain⟨b,off,hc⟩:=gI p;have t:=U0 hc
 go_in
 go_wp2;go_loopw[5] (λc wr=>∃k:Nat,k<=l.length/\c=.int .i64 k/\wr=w/\Hid (∀j,j<k->l.getD j ⟨#[]⟩≠s)) (λc _=>l.length-(RowKit.intOf c).toNat);exact⟨0,I4 _,rfl,rfl,λj h=>absurd h (U7 _)⟩;obtain⟨k,hk,rfl,rfl,hd⟩:=hrel;by_cases f:k<l.length;rotate_left
 ·have g:Hid (yO l s=false):=by
   show _=_;rw[<- Bool.not_eq_true,Rh];intro hm;obtain⟨j,n,rfl⟩:=Ce hm;exact hd j O0 (by simp[List.getD,D9 n])
  clear hd;go_wp2;go_ret;exact⟨by rw[g.out];rfl,rfl⟩
 obtain⟨ha,hbw,o⟩:=Zb t.out f;subst ha;have g0:=o k f;have i:Hid (l.getD k ⟨#[]⟩∈l):=by show _∈_;simp[List.getD,D9 f]
 have m:Hid (l.getD k ⟨#[]⟩≠s->∀j,j<k+1->l.getD j ⟨#[]⟩≠s):=λh j n=>by
  rcases P7 j k with h1|h1
  ·exact hd.out j h1
  obtain rfl:j=k:=O0;exact h
 generalize l.getD k ⟨#[]⟩=x at*;clear o;cases hq:(x.toList==s.toList);rotate_left
 ·have d:x=s:=by
   have:=Zo.1 hq;rw[ByteArray.toList_eq,ByteArray.toList_eq]at this;exact mg (Xk.1 this)
  subst d;have g:=U0 (Rh.2 i.out);clear m hd i;go_wp2;go_ret;exact⟨by rw[g.out];rfl,rfl⟩
 have d:x≠s:=λe=>by rw[e]at hq;simp at hq
 have r:=U0 (m.out d);clear m hd i;go_wp2;go_roundw;exact⟨k+1,O0,by go_num,trivial,r⟩;exact P9
end
theorem c182(a:OA)(p:Nat)(l:LB)(s:BY)(w:World)(hl:l.length<=1000)(o:zG w a l):
 Calls prog 182 #[.slice a l.length p,.string s] w λe w'=>(∃r:Int,e=.returned (.int .i64 r)/\(0<=r↔s∈l))/\w'=w:=by
 obtain⟨b,off,hc⟩:=gI o;have u:=U0 hc
 go_in
 go_wp2;go_loopw[8] (λc wr=>∃k:Nat,k<=l.length/\c=.int .i64 k/\wr=w/\Hid (∀j,j<k->l.getD j ⟨#[]⟩≠s)) (λc _=>l.length-(RowKit.intOf c).toNat);exact⟨0,I4 _,rfl,rfl,λj h=>absurd h (U7 _)⟩;obtain⟨k,hk,rfl,rfl,hd⟩:=hrel;by_cases f:k<l.length;rotate_left
 ·have q:Hid (s∉l):=λhm=>by
   obtain⟨j,i,rfl⟩:=Ce hm;exact hd.out j O0 (by simp[List.getD,D9 i])
  clear hd;go_wp2;go_ret;exact⟨⟨-1,rfl,⟨λh=>O0,λh=>absurd h q.out⟩⟩,rfl⟩
 obtain⟨ha,hbw,m⟩:=Zb u.out f;subst ha;have g0:=m k f;have n:Hid (l.getD k ⟨#[]⟩∈l):=by show _∈_;simp[List.getD,D9 f]
 have g:Hid (l.getD k ⟨#[]⟩≠s->∀j,j<k+1->l.getD j ⟨#[]⟩≠s):=λh j i=>by
  rcases P7 j k with h1|h1
  ·exact hd.out j h1
  obtain rfl:j=k:=O0;exact h
 generalize l.getD k ⟨#[]⟩=x at*;clear m;cases hq:(s.toList==x.toList);rotate_left
 ·have d:s=x:=by
   have:=Zo.1 hq;rw[ByteArray.toList_eq,ByteArray.toList_eq]at this;exact mg (Xk.1 this)
  subst d;clear g hd;go_wp2;go_ret;exact⟨⟨k,rfl,⟨λ_=>n.out,λ_=>O0⟩⟩,rfl⟩
 have d:x≠s:=λe=>by rw[e]at hq;simp at hq
 have t:=U0 (g.out d);clear g hd n;go_wp2;go_roundw;exact⟨k+1,O0,by go_num,trivial,t⟩;exact P9
theorem a4W(a:OA)(c:Nat)(l:LB)(s:BY)(w:World)(hl:l.length<=1000)(f:zG w a l):
 Calls prog 125 #[.slice a l.length c,.string s] w λe w'=>e=.returned (.bool (yO l s))/\w'=w:=by
 have h:=c182 a c l s w hl f
 go_in
 go_wp2_with fail
 refine h.mono ?_;rintro e w1⟨⟨r,rfl,hr⟩,rfl⟩;clear h;by_cases h0:0<=r
 ·have b:=U0 (Rh.2 (hr.1 h0));clear hr;go_wp2;go_ret;exact⟨by rw[b.out];rfl,rfl⟩
 have b:Hid (yO l s=false):=by show _=_;rw[<- Bool.not_eq_true,Rh];exact λh=>h0 (hr.2 h)
 go_wp2;go_ret;have d:decide (0<=r)=false:=by simpa using h0
 exact⟨by rw[b.out,d];rfl,rfl⟩
end Go.Proofs.YtbgdfcmeheaiiaaGreatDoor.G
namespace Go.Proofs.YtbgdfcmeheaiiaaGreatDoor
open Proofs.Tryz Go.RowKit
variable{u w:World}{a:OA}{c:Nat}{ss:LB}
theorem a4d(a c:List R3)(l g:OA)(o n:Nat)(w:World)(hl:a.length<=1048576)(hl':c.length<=1048576)(hx:∀i,(a.getD i j_).gs.length<=1048576)(v:∀i,(c.getD i j_).gs.length<=1048576)(D:Eg w l a)(C:Eg w g c):
 Calls prog 179 #[.slice l a.length o,.slice g c.length n,.func (.func 180) #[] #[]] w λe w'=>Rb (a=c) e/\Bw w w':=by
 have S:=U0 hx;have R:=U0 v;clear hx v;by_cases d:a.length=c.length;rotate_left
 ·have s:Hid (¬a=c):=λh=>d (by rw[h]);have hn1:¬(a.length:Int)=c.length:=O0
  go_in
  go_wp2;go_ret;exact⟨I5 s.out,J4 _ _⟩
 rw[<- d];have t:=U0 d;obtain⟨b,off,hc⟩:=Ue D;obtain⟨b',off',z⟩:=Ue C;have HC:=U0 hc;have HC':=U0 z;clear hc z D C d
 go_in
 go_wp2;go_loopw[17] (λi wr=>∃(k:Nat),k<=a.length/\i=.int .i64 k/\Hid (∀j,j<k->a.getD j j_=c.getD j j_)/\Below w.heap.size w wr) (λi _=>a.length-(RowKit.intOf i).toNat);exact⟨0,I4 _,rfl,λj h=>absurd h (U7 _),J4 _ _⟩;obtain⟨k,hk2,rfl,hd,f⟩:=hrel;by_cases m:k<a.length;rotate_left
 ·obtain rfl:k=a.length:=O0;have V:=U0 (Io t.out hd.out);go_wp2;go_ret;exact⟨F_ V.out,f⟩
 obtain⟨ha,O,y⟩:=Zb HC.out m;rcases HC'.out with N|⟨P,A,x⟩
 ·have d:=t.out;rw[N]at d;rw[d]at m;exact absurd m (U7 _)
 subst ha;subst P;have a5p:=G9 A f.size;obtain⟨l,o,g0,g1,g2,g3⟩:=(y k m).below O f;obtain⟨g,n,J,I,H,u⟩:=(x k (by have:=t.out;omega)).below A f;have G3:=U0 g3;have U:=U0 u;have L:=S.out k;have K:=R.out k;have HD:Hid (a.getD k j_=c.getD k j_->∀j,j<k+1->a.getD j j_=c.getD j j_):=λq j hj=>by
  rcases P7 j k with h|h
  ·exact hd.out j h
  obtain rfl:j=k:=O0;exact q
 have s:Hid (¬a.getD k j_=c.getD k j_->¬a=c):=λq h=>q (by rw[h]);have E:=U0 f;clear y x g3 u hd f;generalize a.getD k j_=X at*;generalize c.getD k j_=Y at*;have p:Hid (Bw wr ((wr.alloc (.cells #[vS X.key,vL l X.gs.length o,vS X.out] 176)).alloc (.cells #[vS Y.key,vL g Y.gs.length n,vS Y.out] 176))):=P6.alloc O4 _
 go_wp2_with fail
 refine(a2N X Y l g o n _ L K (V8 G3.out p.out) (V8 U.out p.out)).mono ?_;rintro e w1⟨⟨Q,rfl,r⟩,B⟩;have F:=U0 (P5 (P5 E.out p.out) B);clear B p E g0 g1 g2 J I H
 cases Q with
 | true=>
  have Z:=U0 (HD.out (r.1 rfl));clear r;go_wp2;go_roundw;exact⟨k+1,O0,by go_num,Z,F.out⟩;exact P9
 | false=>
  have W:=U0 (s.out (λh=>by have:=r.2 h;cases this));go_wp2;go_ret;exact⟨I5 W,F⟩
theorem a2z(x y:St)(ta ra a rb:OA)(tc rc b rd:Nat)(w:World)(hx:x.ts.length<=1048576/\x.rs.length<=1048576/\∀i,(x.rs.getD i j_).gs.length<=1048576)(p:y.ts.length<=1048576/\y.rs.length<=1048576/\∀i,(y.rs.getD i j_).gs.length<=1048576)(s:Ig w ta ra x)(r:Ig w a rb y):
 Calls prog 120 #[.agg #[.int .i64 x.wd,.slice ta x.ts.length tc,.slice ra x.rs.length rc],.agg #[.int .i64 y.wd,.slice a y.ts.length b,.slice rb y.rs.length rd]] w λe w'=>Rb (x=y) e/\Bw w w':=by
 have X:=U0 hx;have Y:=U0 p;have z:=U0 s;have v:=U0 r;clear hx p s r
 go_in
 go_upto_region 1 with fail
 have f:=U0 (G8 (U3 w [vI x.wd,vL ta x.ts.length tc,vL ra x.rs.length rc] 49) (.cells #[vI y.wd,vL a y.ts.length b,vL rb y.rs.length rd] 49));have d:Hid (Cl ((w.alloc (.cells #[vI x.wd,vL ta x.ts.length tc,vL ra x.rs.length rc] 49)).alloc (.cells #[vI y.wd,vL a y.ts.length b,vL rb y.rs.length rd] 49)) (w.heap.size+1) 49 [vI y.wd,vL a y.ts.length b,vL rb y.rs.length rd]):=by show Cl _ _ _ _;have h:=U3 (w.alloc (.cells #[vI x.wd,vL ta x.ts.length tc,vL ra x.rs.length rc] 49)) [vI y.wd,vL a y.ts.length b,vL rb y.rs.length rd] 49;simpa using h
 have l:Hid (Bw w ((w.alloc (.cells #[vI x.wd,vL ta x.ts.length tc,vL ra x.rs.length rc] 49)).alloc (.cells #[vI y.wd,vL a y.ts.length b,vL rb y.rs.length rd] 49))):=P6.alloc O4 _;generalize (w.alloc (.cells #[vI x.wd,vL ta x.ts.length tc,vL ra x.rs.length rc] 49)).alloc (.cells #[vI y.wd,vL a y.ts.length b,vL rb y.rs.length rd] 49)=V at*;have u:=f.out.cell 0;have m:=d.out.cell 0;have a1:=f.out.cell 1;have t:=d.out.cell 1;have a2:=f.out.cell 2;have j:=d.out.cell 2;simp only[gz]at u m a1 t a2 j;by_cases hw:x.wd=y.wd;rotate_left
 ·have o:Hid (¬x=y):=λh=>hw (by rw[h]);go_wp2;go_ret;exact⟨I5 o.out,l.out⟩
 have B:=U0 hw;rw[<- hw]at m;clear hw
 go_wp2_with fail
 refine(a4R x.ts y.ts ta a tc b V X.out.1 Y.out.1 (X5 z.out.1 l.out) (X5 v.out.1 l.out)).mono ?_;rintro e A⟨⟨n,rfl,c⟩,g⟩
 replace a2:=(g.cell (by exact f.out.lt)).trans a2
 replace j:=(g.cell (by exact d.out.lt)).trans j
 have k:=U0 (P5 l.out g);clear g u a1 m t f d
 cases n with
 | false=>
  have o:Hid (¬x=y):=λh=>by have:=c.2 (by rw[h]);cases this
  clear c;go_wp2;go_ret;exact⟨I5 o.out,k.out⟩
 | true=>
 have C:=U0 (c.1 rfl);clear c
 go_wp2_with fail
 refine(a4d x.rs y.rs ra rb rc rd A X.out.2.1 Y.out.2.1 X.out.2.2 Y.out.2.2 (oh z.out.2 k.out) (oh v.out.2 k.out)).mono ?_;rintro e w2⟨⟨n,rfl,c⟩,q⟩;have E:=U0 (P5 k.out q);have D:Hid (n=true↔x=y):=by
  have h1:=B.out;have h2:=C.out;obtain⟨_,_,_⟩:=x;obtain⟨_,_,_⟩:=y;dsimp only at h1 h2 c;subst h1 h2;exact c.trans ⟨λh=>by rw[h],λh=>by injection h⟩
 clear c q a2 j;go_wp2;go_ret;exact⟨⟨_,rfl,D.out⟩,E.out⟩
theorem fO(h:o8 w a ss)(ha:ss=[]->a=none\/∃p,a=some p)(f:Bw w u):Src u (.slice a ss.length c) 1 ss.length (ss.map .string):=by
 rcases h with rfl|⟨b,off,rfl,hl,h⟩
 ·rcases ha rfl with rfl|⟨p,rfl⟩
  ·exact .inl ⟨⟨c,rfl⟩,rfl,rfl⟩
  exact .inr ⟨p,c,rfl,rfl,λj u e=>by simp at e⟩
 refine .inr ⟨_,c,rfl,O4,λj v e=>?_⟩;obtain⟨d,rfl⟩:=Rl.1 e;simp at d;rw[Zq,f.cell (by exact hl),h j d];simp[List.getD,d]
theorem UU(h:o8 w a ss)(b:Bw w u):Src u (.slice a ss.length c) 1 ss.length (ss.map .string):=fO h (λ_=>by cases a;exact .inl rfl;exact .inr ⟨_,rfl⟩) b
theorem ZK{base:Nat}{v:Value}(h:w.ownsRow base 9 1 v ss.length (ss.map .string)):∃a c,v=.slice a ss.length c/\o8 w a ss:=by
 obtain⟨a,c,rfl⟩:=Eb h;refine⟨a,c,rfl,?_⟩;by_cases h0:ss=[]
 ·exact .inl h0
 have d:=Us.2 h0;obtain⟨g,c',e,f,_⟩:=IA h (j:=0) (x:=vS (ss[0])) (by simp[d]);injection e with e;subst e;refine .inr ⟨g,0,rfl,f,λi b=>?_⟩;obtain⟨g',c'',e,_,h2⟩:=IA h (j:=i) (x:=vS (ss[i])) (by simp[b]);injection e with e;injection e with e;injection e with e;subst e;rw[l7,h2];simp[List.getD,b]
theorem c40(sf lo:LB)(sa la:OA)(sc lc:Nat)(w:World)(hl:sf.length+lo.length<=1048576)(p:o8 w sa sf)(q:o8 w la lo):
 Calls prog 40 #[.agg #[.slice sa sf.length sc,.slice la lo.length lc]] w λe w'=>(∃a c,e=.returned (.slice a (sf++lo).length c)/\o8 w' a (sf++lo))/\Bw w w':=by
 have A:=U0 p;have z:=U0 q;clear p q
 go_in
 go_upto_region 1 with fail
 have t:=U0 (U3 w [vL sa sf.length sc,vL la lo.length lc] 43);have n:=U0 (P6 (w:=w) (o:=.cells #[vL sa sf.length sc,vL la lo.length lc] 43));generalize w.alloc (.cells #[vL sa sf.length sc,vL la lo.length lc] 43)=V at*;have hd:Bw V V.drew:=(J4 _ _).drew;have g:Hid (∀u,Bw V u->u.cell? (aW w 0)=some (vL sa sf.length sc)/\u.cell? (aW w 1)=some (vL la lo.length lc)):=λu v=>have h:=t.out.below v t.out.lt;⟨h.cell 0,h.cell 1⟩
 refine FO g hd Y0 λhH=>?_;refine U8 1 ?_;refine tq 2 hH ?_;refine U8 4 ?_;refine U8 5 ?_;refine rq 0 λK b=>?_;go_simp;have j:=U0 (row0 (base:=V.heap.size) V.drew 9 1 rfl Y8);have d:Bw V (V.drew.alloc (.cells #[] 9)):=hd.alloc Y8 _;refine X8 b (g.out _ d) λhH=>?_;clear b K;refine rq 3 λK b=>?_;refine Qc rfl _ _ 22 rfl V.heap.size 9 1 underlying22 II J6 _ 0 [] rfl j.out _ sf.length (sf.map .string) rfl (UU A.out (P5 n.out d)) (Wl _) O0 d.size ?_;intro v1 y1 m g1 e1;rw[l7,Qb]at m;have f:=Di d g1 d.size (λk e=>Y6 j.out e);have i:=U0 m;clear m g1 e1 j d;refine X8 b (g.out _ f) λhH=>?_;clear b K;refine rq 6 λK b=>?_;refine Qc rfl _ _ 22 rfl V.heap.size 9 1 underlying22 II J6 _ sf.length (sf.map .string) rfl i.out _ lo.length (lo.map .string) rfl (UU z.out (P5 n.out f)) (Wl _) O0 f.size ?_;intro v2 y2 l g2 x;have s:=Di f g2 f.size (λk e=>Y6 i.out e);rw[<- Gl,<- L9]at l;obtain⟨a,c,rfl,r⟩:=ZK l;have y:=U0 r;have B:=U0 (P5 n.out s);clear l g2 x i r;refine X8 b (g.out _ s) λhH=>?_;clear b K;refine sq ?_;refine wdn ?_;go_wp2;go_ret;exact⟨⟨_,_,by rw[L9];rfl,y.out⟩,B.out⟩
theorem a3L(n:Nat)(w:World)(hn:n<=1048576):
 Calls prog 177 #[.slice none 0 0,.int .i64 n] w λe w'=>(∃v,e=.returned v/\w'.ownsRow w.heap.size 9 1 v 0 [])/\Bw w w':=by
 by_cases h0:n=0
 ·subst h0
  go_in
  go_wp2;go_ret;exact⟨⟨_,rfl,og _ _ _ _⟩,J4 _ _⟩
 obtain⟨a,f,d,c,b⟩:=info_parts info9;have hr:∀u:World,_:=λu:World=>Lib.run_append_nil_zeros (P:=prog) u 22 3 22 9 a vE .i64 .i64 underlying22 underlying3 f d n O0 (by rw[c];decide) O0 (by rw[b];omega);have h1:(0:Int)<n:=O0
 go_in
 go_wp2_with(refine Lib.wpList_append_run _ rfl _ _ 22 3 rfl _ _ rfl rfl _ _ (hr _) ?_)
 go_ret;refine⟨⟨_,rfl,rfl,.inr ⟨w.heap.size,grownCap w n 0 9,_,rfl,Nat.le_refl _,heap_alloc_new w _,Nat.zero_le _,grownCap_le_maxLen w n 0 9 (by unfold maxLen;omega),?_,O4⟩⟩,P6.drew⟩;have:=grownCap_ge w n 0 9;rw[Array.size_append,size_zeroCells,size_zeroCells];show n*1+(grownCap w n 0 9-n)*1=_;omega
theorem c119(sf lo:LB)(sa la:OA)(sc lc B:Nat)(w:World)(hl:sf.length+lo.length<=1048576)(hB:Cl w B 22 [.slice sa sf.length sc,.slice la lo.length lc])(q:o8 w sa sf)(r:o8 w la lo):
 Calls prog 119 #[.slice (some ⟨B,0,none⟩) 2 2] w λe w'=>(∃v,e=.returned v/\w'.ownsRow w.heap.size 9 1 v (sf++lo).length ((sf++lo).map .string))/\Bw w w':=by
 have A:=U0 q;have z:=U0 r;have p:=U0 hB;have l:=hB.cell 0;have j:=hB.cell 1;simp only[gz]at l j
 go_in
 go_wp2;go_loop[3,11] (λs i=>(i=.int .i64 0/\s=.int .i64 0)\/(i=.int .i64 1/\s=.int .i64 sf.length)\/(i=.int .i64 2/\s=.int .i64 ((sf.length:Int)+lo.length))) (λ_ i=>2-(RowKit.intOf i).toNat);exact .inl ⟨rfl,rfl⟩;rcases hrel with⟨rfl,rfl⟩|⟨rfl,rfl⟩|⟨rfl,rfl⟩
 ·go_wp2
  go_round
  exact .inr (.inl ⟨rfl,rfl⟩);simp[RowKit.intOf]
 ·go_wp2
  go_round
  exact .inr (.inr ⟨rfl,by go_num⟩);simp[RowKit.intOf]
 go_wp2_with fail
 have o:=a3L (sf.length+lo.length) w hl;rw[Int.natCast_add]at o;refine o.mono ?_;rintro e w1⟨⟨v,rfl,hv⟩,t⟩;go_wp2;go_loopw[6,27] (λs i wr=>((i=.int .i64 0/\wr.ownsRow w.heap.size 9 1 s ([]:List ByteArray).length (([]:List ByteArray).map .string))\/(i=.int .i64 1/\wr.ownsRow w.heap.size 9 1 s sf.length (sf.map .string))\/(i=.int .i64 2/\wr.ownsRow w.heap.size 9 1 s (sf++lo).length ((sf++lo).map .string)))/\Below w.heap.size w wr) (λ_ i _=>2-(RowKit.intOf i).toNat);exact⟨.inl ⟨rfl,hv⟩,t⟩;obtain⟨hrel,a⟩:=hrel;rcases hrel with⟨rfl,hr⟩|⟨rfl,hr⟩|⟨rfl,hr⟩
 ·replace l:=(a.cell (by exact p.out.lt)).trans l
  have b:=U0 hr;have m:=U0 (UU (c:=sc) A a)
  go_wp2_with(refine Nr rfl _ _ 22 rfl w.heap.size 9 1 underlying22 II J6 _ ([]:LB).length (([]:LB).map .string) rfl b.out _ sf.length (sf.map .string) rfl m.out (Wl _) (by first|omega|(simp;omega)) a.size ?_;intro v' y d f u)
  have g:=U0 (Di a f a.size (λk e=>Y6 b e));have n:=U0 d;go_wp2;go_roundw;exact⟨.inr (.inl ⟨rfl,by have h:=n.out;simpa using h⟩),g.out⟩;simp[RowKit.intOf]
 ·replace j:=(a.cell (by exact p.out.lt)).trans j
  have b:=U0 hr;have m:=U0 (UU (c:=lc) z a)
  go_wp2_with(refine Nr rfl _ _ 22 rfl w.heap.size 9 1 underlying22 II J6 _ (sf).length ((sf).map .string) rfl b.out _ lo.length (lo.map .string) rfl m.out (Wl _) (by first|omega|(simp;omega)) a.size ?_;intro v' y d f u)
  have g:=U0 (Di a f a.size (λk e=>Y6 b e));have n:=U0 d;go_wp2;go_roundw;exact⟨.inr (.inr ⟨rfl,by have h:=n.out;rw[<- Gl,<- L9]at h;exact h⟩),g.out⟩;simp[RowKit.intOf]
 have x:=U0 hr;go_wp2;go_ret;exact⟨⟨_,rfl,x⟩,a⟩
theorem c65(sf lo:LB)(sa la:OA)(sc lc:Nat)(w:World)(hl:sf.length+lo.length<=1048576)(d:o8 w sa sf)(f:o8 w la lo):
 Calls prog 65 #[.agg #[.slice sa sf.length sc,.slice la lo.length lc]] w λe w'=>(∃a c,e=.returned (.slice a (sf++lo).length c)/\o8 w' a (sf++lo))/\Bw w w':=by
 have b:Bw w ((w.alloc (.cells #[vL sa sf.length sc,vL la lo.length lc] 43)).alloc (.cells #[vL sa sf.length sc,vL la lo.length lc] 22)):=P6.alloc O4 _;have hc:=c119 sf lo sa la sc lc (w.heap.size+1) _ hl (by have h:=U3 (w.alloc (.cells #[vL sa sf.length sc,vL la lo.length lc] 43)) [vL sa sf.length sc,vL la lo.length lc] 22;simpa using h) (X5 d b) (X5 f b);have l:=U0 b
 go_in
 go_wp2_with fail
 refine hc.mono ?_;rintro e w1⟨⟨v,rfl,j⟩,g⟩;obtain⟨a,c,rfl,i⟩:=ZK j;have k:=U0 i;have m:=U0 (P5 l g);go_wp2;go_ret;exact⟨⟨_,_,by rw[L9];rfl,k.out⟩,m.out⟩
end Go.Proofs.YtbgdfcmeheaiiaaGreatDoor
namespace Go.Proofs.YtbgdfcmeheaiiaaGreatDoor.G
open Proofs.Tryz Go.RowKit Go.Extern.Stop Go.Stop Go.Extern
theorem as_nil(t:Value)(w:World):
 Calls prog 192 #[.nilIface,t] w λe w'=>e=.returned (.bool false)/\w'=w:=by
 go_in
 go_wp2;go_ret;exact⟨rfl,rfl⟩
theorem vM(t:Addr)(w:World):(ReflectliteValue.unpack (.iface 320 (.pointer (some t)))).run prog w
 =.ok (.agg #[.pointer (some ⟨14,320,none⟩),.pointer (some ⟨w.heap.size,0,none⟩),.int .u64 150]) (w.alloc (.cells #[.pointer (some t)] 320)):=Y0
theorem type64 (a:Addr) (w:World):(ReflectliteValue.methodAny (ReflectliteValue.valueError "reflectlite.Value.Type" 0) (λt _ _ _=>ReflectliteType.toType t) #[.agg #[.pointer (some ⟨14,320,none⟩),.pointer (some a),.int .u64 150]]).run prog w
 =.ok (.iface 435 (.agg #[.pointer (some ⟨14,320,none⟩)])) w:=Y0
theorem methodKind (h:Value) (w:World):(Go.method 643 435 (.agg #[h]) "Kind").run prog w=.ok (406,h) w:=Y0
theorem a0L(w:World):((ReflectliteType.abiMethod λt=>(λa:Nat=>Value.int IntKind.u8 (a:Int)) <$> Rtype.kind t) #[.pointer (some ⟨14,320,none⟩)]).run prog w=.ok (.int .u8 22) w:=Y0
theorem a0R(w:World):((ReflectliteType.abiMethod λt=>(λa:Nat=>Value.int IntKind.u8 (a:Int)) <$> Rtype.kind t) #[.pointer (some ⟨14,318,none⟩)]).run prog w=.ok (.int .u8 25) w:=Y0
theorem kQ (a:Addr) (W:World):(ReflectliteValue.method (ReflectliteValue.valueError "reflectlite.Value.IsNil" 0) ReflectliteValue.isNil #[.agg #[.pointer (some ⟨14,320,none⟩),.pointer (some a),.int .u64 150]]).run prog W=(ReflectliteValue.isNil 320 a 150 22).run prog W:=Y0
theorem QX (a:Addr) (W:World):(ReflectliteValue.method (ReflectliteValue.valueError "reflectlite.Value.Elem" 0) ReflectliteValue.elem #[.agg #[.pointer (some ⟨14,320,none⟩),.pointer (some a),.int .u64 150]]).run prog W=(ReflectliteValue.elem 320 a 150 22).run prog W:=Y0
theorem uX(a p:Addr)(W:World)(ha:W.cell? a=some (.pointer (some p))):
 (ReflectliteValue.method (ReflectliteValue.valueError "reflectlite.Value.IsNil" 0) ReflectliteValue.isNil #[.agg #[.pointer (some ⟨14,320,none⟩),.pointer (some a),.int .u64 150]]).run prog W=.ok (.bool false) W:=by
 rw[kQ];simp[ReflectliteValue.isNil,loadVar,isAgg,underlying,underlying320,ha,Result.andThen]
theorem methodElem (h:Value) (w:World):(Go.method 643 435 (.agg #[h]) "Elem").run prog w=.ok (428,.agg #[h]) w:=Y0
theorem methodImplements (h:Value) (w:World):(Go.method 643 435 (.agg #[h]) "Implements").run prog w=.ok (429,.agg #[h]) w:=Y0
theorem methodAssignableTo (h:Value) (w:World):(Go.method 643 435 (.agg #[h]) "AssignableTo").run prog w=.ok (426,.agg #[h]) w:=Y0
theorem jZ(w:World):(ReflectliteType.method ReflectliteType.elem #[.agg #[.pointer (some ⟨14,320,none⟩)]]).run prog w=.ok (.iface 435 (.agg #[.pointer (some ⟨14,318,none⟩)])) w:=Y0
theorem JE (w:World):(ReflectliteType.relation "Implements" ReflectliteType.implements_ #[.agg #[.pointer (some ⟨14,318,none⟩)],.iface 435 (.agg #[.pointer (some ⟨14,218,none⟩)])]).run prog w=.ok (.bool true) w:=Y0
theorem iR(v:Value)(w:World):(ReflectliteType.typeOf #[.iface 318 v]).run prog w=.ok (.iface 435 (.agg #[.pointer (some ⟨14,318,none⟩)])) w:=Y0
theorem RF (w:World):(ReflectliteType.relation "AssignableTo" ReflectliteType.assignableTo #[.agg #[.pointer (some ⟨14,318,none⟩)],.iface 435 (.agg #[.pointer (some ⟨14,318,none⟩)])]).run prog w=.ok (.bool true) w:=Y0
theorem FM(x y:Value)(w:World):(ReflectliteValue.unpack (.iface 318 (.agg #[x,y]))).run prog w
 =.ok (.agg #[.pointer (some ⟨14,318,none⟩),.pointer (some ⟨w.heap.size,0,none⟩),.int .u64 153]) (w.alloc (.cells #[x,y] 318)):=Y0
theorem aQ(w:World):(Rtype.elem? 320).run prog w=.ok (some 318) w:=Y0
theorem a4J(p:Addr)(w:World):(ReflectliteValue.mk 318 p ReflectliteValue.flagAddr).run prog w=.ok (.agg #[.pointer (some ⟨14,318,none⟩),.pointer (some p),.int .u64 409]) w:=Y0
theorem EX(a p:Addr)(W:World)(ha:W.cell? a=some (.pointer (some p))):
 (ReflectliteValue.method (ReflectliteValue.valueError "reflectlite.Value.Elem" 0) ReflectliteValue.elem #[.agg #[.pointer (some ⟨14,320,none⟩),.pointer (some a),.int .u64 150]]).run prog W
  =.ok (.agg #[.pointer (some ⟨14,318,none⟩),.pointer (some p),.int .u64 409]) W:=by
 rw[QX];simp[ReflectliteValue.elem,loadVar,isAgg,underlying,underlying320,ha,Result.andThen,aQ,a4J]
theorem wZ(a b:Addr)(W:World):(ReflectliteValue.set #[.agg #[.pointer (some ⟨14,318,none⟩),.pointer (some a),.int .u64 409],.agg #[.pointer (some ⟨14,318,none⟩),.pointer (some b),.int .u64 153]]).run prog W=(do let v<-loadVar 318 b;storeVar 318 a v;pure (Value.tuple #[])).run prog W:=Y0
theorem a2E(B c:Nat)(n:Int)(ty:TypeId)(va x0 a:Value)(W:World)(k:W.cell? ⟨c,0,none⟩=some (.int .i64 n))(j:W.cell? ⟨c,1,none⟩=some (.iface ty va))(d:W.cell? ⟨B,0,none⟩=some x0)(b:W.cell? ⟨B,1,none⟩=some a)(h:W.frozen? ⟨B,0,none⟩=false)(g:W.frozen? ⟨B,1,none⟩=false):
 (ReflectliteValue.set #[.agg #[.pointer (some ⟨14,318,none⟩),.pointer (some ⟨B,0,none⟩),.int .u64 409],.agg #[.pointer (some ⟨14,318,none⟩),.pointer (some ⟨c,0,none⟩),.int .u64 153]]).run prog W
  =.ok (.tuple #[]) ((W.setCell ⟨B,0,none⟩ (.int .i64 n)).setCell ⟨B,1,none⟩ (.iface ty va)):=by
 have f:(W.setCell (aA B 0) (vI n)).cell? (aA B 1)=some a:=by rw[Qa _ _ _ _ (by intro e;injection e with _ e;cases e)];exact b
 have i:(W.setCell (aA B 0) (vI n)).frozen? (aA B 1)=false:=by simpa using g
 rw[wZ];simp[loadVar,isAgg,underlying,underlying318,loadCells,loadCellsFrom,k,j,Result.andThen,storeVar,Value.cells,storeCells,Addr.add];rw[xB prog W (aA B 0) _ _ (by rfl)];simp[d,h];rw[xB prog _ (aA B 1) _ _ (by rfl)];simp[f,i]
theorem as_hit(B:Nat)(n:Int)(ty:TypeId)(va x0 b:Value)(w:World)(d:w.cell? ⟨4,0,none⟩=some (.iface 435 (.agg #[.pointer (some ⟨14,218,none⟩)])))(c:w.cell? ⟨B,0,none⟩=some x0)(e:w.cell? ⟨B,1,none⟩=some b)(i:w.frozen? ⟨B,0,none⟩=false)(g:w.frozen? ⟨B,1,none⟩=false):
 Calls prog 192 #[.iface 318 (.agg #[.int .i64 n,.iface ty va]),.iface 320 (.pointer (some ⟨B,0,none⟩))] w λj w'=>j=.returned (.bool true)/\w'=(((((w.alloc (.cells #[.pointer (some ⟨B,0,none⟩)] 320)).alloc (.cells #[.pointer (some ⟨14,320,none⟩),.pointer (some ⟨w.heap.size,0,none⟩),.int .u64 150] 384)).alloc (.cells #[.pointer (some ⟨14,320,none⟩),.pointer (some ⟨w.heap.size,0,none⟩),.int .u64 150] 384)).alloc (.cells #[.int .i64 n,.iface ty va] 318)).setCell ⟨B,0,none⟩ (.int .i64 n)).setCell ⟨B,1,none⟩ (.iface ty va):=by
 have h40:=@run_callFunc_extern prog 259 _ (λargs=>ReflectliteValue.unpack (args.getD 0 (.tuple #[]))) func259 Y0 Y0 Y0 Y0;have h41:=@run_callFunc_extern prog 260 _ (ReflectliteValue.methodAny (ReflectliteValue.valueError "reflectlite.Value.Type" 0) (λt _ _ _=>ReflectliteType.toType t)) func260 Y0 Y0 Y0 Y0;have h42:=@run_callFunc_extern prog 261 _ (ReflectliteValue.method (ReflectliteValue.valueError "reflectlite.Value.IsNil" 0) ReflectliteValue.isNil) func261 Y0 Y0 Y0 Y0;have h84:=@run_callFunc_extern prog 406 _ (ReflectliteType.abiMethod λt=>do pure (.int .u8 (<- Rtype.kind t))) func406 Y0 Y0 Y0 Y0;have h96:=@run_callFunc_extern prog 428 _ (ReflectliteType.method ReflectliteType.elem) func428 Y0 Y0 Y0 Y0;have h97:=@run_callFunc_extern prog 429 _ (ReflectliteType.relation "Implements" ReflectliteType.implements_) func429 Y0 Y0 Y0 Y0;have h54:=@run_callFunc_extern prog 310 _ ReflectliteType.typeOf func310 Y0 Y0 Y0 Y0;have h94:=@run_callFunc_extern prog 426 _ (ReflectliteType.relation "AssignableTo" ReflectliteType.assignableTo) func426 Y0 Y0 Y0 Y0;have h55:=@run_callFunc_extern prog 311 _ (ReflectliteValue.method (ReflectliteValue.valueError "reflectlite.Value.Elem" 0) ReflectliteValue.elem) func311 Y0 Y0 Y0 Y0;have h56:=@run_callFunc_extern prog 312 _ ReflectliteValue.set func312 Y0 Y0 Y0 Y0;have tO:=iR;have mA:=methodAssignableTo;have a25:=RF;have v25:=FM;have f6:=vM;have f7:=type64;have mK:=methodKind;have mE:=methodElem;have mI:=methodImplements;have k27:=a0L;have k25:=a0R;have e27:=jZ;have i25:=JE;have n8:=uX (aW w 0) (aA B 0) ((w.alloc (.cells #[.pointer (some (aA B 0))] 320)).alloc (.cells #[.pointer (some (aA 14 320)),.pointer (some (aW w 0)),.int .u64 150] 384)) O4;have f:4<w.heap.size:=by
  rcases P7 4 w.heap.size with h0|h
  ·exact h0
  simp[World.cell?,Kq h]at d
 have hg2:((w.alloc (.cells #[.pointer (some (aA B 0))] 320)).alloc (.cells #[.pointer (some (aA 14 320)),.pointer (some (aW w 0)),.int .u64 150] 384)).cell? (aA 4 0)=some (.iface 435 (.agg #[.pointer (some (aA 14 218))])):=by
  rw[Ei _ _ (aA 4 0) X7,Ei _ _ (aA 4 0) f];exact d
 have a:B<w.heap.size:=by
  rcases P7 B w.heap.size with h|h
  ·exact h
  simp[World.cell?,Kq h]at c
 have el:=EX (aW w 0) (aA B 0) (((w.alloc (.cells #[.pointer (some (aA B 0))] 320)).alloc (.cells #[.pointer (some (aA 14 320)),.pointer (some (aW w 0)),.int .u64 150] 384)).alloc (.cells #[.pointer (some (aA 14 320)),.pointer (some (aW w 0)),.int .u64 150] 384)) (by rw[Ei _ _ (aW w 0) X7];simp);have st:=a2E B (w.heap.size+1+1+1) n ty va x0 b ((((w.alloc (.cells #[.pointer (some (aA B 0))] 320)).alloc (.cells #[.pointer (some (aA 14 320)),.pointer (some (aW w 0)),.int .u64 150] 384)).alloc (.cells #[.pointer (some (aA 14 320)),.pointer (some (aW w 0)),.int .u64 150] 384)).alloc (.cells #[vI n,.iface ty va] 318))
  (by rw[World.cell?_alloc_at _ _ _ _ O4];rfl)
  (by rw[World.cell?_alloc_at _ _ _ _ O4];rfl)
  (by rw[Ei _ _ (aA B 0) X7,Ei _ _ (aA B 0) X7,Ei _ _ (aA B 0) X7,Ei _ _ (aA B 0) a];exact c)
  (by rw[Ei _ _ (aA B 1) X7,Ei _ _ (aA B 1) X7,Ei _ _ (aA B 1) X7,Ei _ _ (aA B 1) a];exact e)
  (by rw[Kw _ _ (aA B 0) X7,Kw _ _ (aA B 0) X7,Kw _ _ (aA B 0) X7,Kw _ _ (aA B 0) (Nat.ne_of_lt a)];exact i)
  (by rw[Kw _ _ (aA B 1) X7,Kw _ _ (aA B 1) X7,Kw _ _ (aA B 1) X7,Kw _ _ (aA B 1) (Nat.ne_of_lt a)];exact g)
 go_in
 go_wp2;refine wp_loop_rounds 1 ?_;rw[rounds_succ];go_wp2;go_ret;exact⟨rfl,rfl⟩
theorem tV(B:Nat)(n:Int)(ty:TypeId)(va x0 a:Value)(w:World)(f:w.cell? ⟨4,0,none⟩=some (.iface 435 (.agg #[.pointer (some ⟨14,218,none⟩)])))(b:w.cell? ⟨B,0,none⟩=some x0)(d:w.cell? ⟨B,1,none⟩=some a)(i:w.frozen? ⟨B,0,none⟩=false)(g:w.frozen? ⟨B,1,none⟩=false):
 Calls prog 192 #[.iface 318 (.agg #[.int .i64 n,.iface ty va]),.iface 320 (.pointer (some ⟨B,0,none⟩))] w λj w'=>j=.returned (.bool true)/\Below B w w':=by
 have c:B<w.heap.size:=by
  rcases P7 B w.heap.size with h|h
  ·exact h
  simp[World.cell?,Kq h]at b
 refine(as_hit B n ty va x0 a w f b d i g).mono ?_;rintro e w'⟨he,hw⟩;refine⟨he,?_⟩;rw[hw];exact((((((J4 B w).alloc (Uu c) _).alloc X7 _).alloc X7 _).alloc X7 _).setCell (p:=(aA B 0)) Y8 _).setCell (p:=(aA B 1)) Y8 _
theorem eU(w:World):
 Calls prog 130 #[.nilIface] w λe w'=>e=.returned (.bool false)/\Bw w w':=by
 go_in
 go_wp2_with fail
 refine(as_nil _ _).mono ?_;rintro e w1⟨rfl,rfl⟩;go_wp2;go_ret;exact⟨rfl,P6⟩
theorem RQ(n:Int)(ty:TypeId)(va:Value)(w:World)(a:w.cell? ⟨4,0,none⟩=some (.iface 435 (.agg #[.pointer (some ⟨14,218,none⟩)]))):
 Calls prog 130 #[.iface 318 (.agg #[.int .i64 n,.iface ty va])] w λe w'=>e=.returned (.bool true)/\Bw w w':=by
 have b:4<w.heap.size:=by
  rcases P7 4 w.heap.size with h0|h
  ·exact h0
  simp[World.cell?,Kq h]at a
 have d:Hid (∀o,(w.alloc o).cell? (aA 4 0)=some (.iface 435 (.agg #[.pointer (some (aA 14 218))]))):=λo=>(Ei _ _ (aA 4 0) b).trans a
 go_in
 go_wp2_with fail
 refine(tV w.heap.size n ty va vO .nilIface _ (d.out _) O4 O4 O4 O4).mono ?_;rintro e w1⟨rfl,c⟩;have hB:=P6.trans c;go_wp2;go_ret;exact⟨rfl,hB⟩
end Go.Proofs.YtbgdfcmeheaiiaaGreatDoor.G
namespace Go.Proofs.YtbgdfcmeheaiiaaGreatDoor
open Proofs.Tryz Go.RowKit
theorem c43(x y:St)(ta ra l rb:OA)(tc rc m rd:Nat)(w:World)(hx:x.ts.length<=1048576/\x.rs.length<=1048576/\∀i,(x.rs.getD i j_).gs.length<=1048576)(hy:y.ts.length<=1048576/\y.rs.length<=1048576/\∀i,(y.rs.getD i j_).gs.length<=1048576)(hat:Ig w ta ra x)(hat':Ig w l rb y):
 Calls prog 43 #[.agg #[.int .i64 x.wd,.slice ta x.ts.length tc,.slice ra x.rs.length rc],.agg #[.int .i64 y.wd,.slice l y.ts.length m,.slice rb y.rs.length rd]] w λe w'=>Rb (x=y) e/\Bw w w':=by
 obtain⟨x1,x2,Z⟩:=hx;obtain⟨y1,y2,W⟩:=hy;have X3:=U0 Z;have Y3:=U0 W;have HA:=U0 hat;have HA':=U0 hat';clear Z W hat hat'
 go_in
 go_upto_region 1 with fail
 have v:=U0 (G8 (U3 w [vI x.wd,vL ta x.ts.length tc,vL ra x.rs.length rc] 49) (.cells #[vI y.wd,vL l y.ts.length m,vL rb y.rs.length rd] 49));have u:Hid (Cl ((w.alloc (.cells #[vI x.wd,vL ta x.ts.length tc,vL ra x.rs.length rc] 49)).alloc (.cells #[vI y.wd,vL l y.ts.length m,vL rb y.rs.length rd] 49)) (w.heap.size+1) 49 [vI y.wd,vL l y.ts.length m,vL rb y.rs.length rd]):=by show Cl _ _ _ _;have h:=U3 (w.alloc (.cells #[vI x.wd,vL ta x.ts.length tc,vL ra x.rs.length rc] 49)) [vI y.wd,vL l y.ts.length m,vL rb y.rs.length rd] 49;simpa using h
 have C:Hid (Bw w ((w.alloc (.cells #[vI x.wd,vL ta x.ts.length tc,vL ra x.rs.length rc] 49)).alloc (.cells #[vI y.wd,vL l y.ts.length m,vL rb y.rs.length rd] 49))):=P6.alloc O4 _;generalize (w.alloc (.cells #[vI x.wd,vL ta x.ts.length tc,vL ra x.rs.length rc] 49)).alloc (.cells #[vI y.wd,vL l y.ts.length m,vL rb y.rs.length rd] 49)=V at*;have L:=v.out.cell 0;have A:=u.out.cell 0;have a1:=v.out.cell 1;have s:=u.out.cell 1;have a2:=v.out.cell 2;have n:=u.out.cell 2;simp only[gz]at L A a1 s a2 n;by_cases hw:x.wd=y.wd;rotate_left
 ·have g:Hid (¬x=y):=λh=>hw (by rw[h]);go_wp2;go_ret;exact⟨I5 g.out,C.out⟩
 by_cases d:x.ts.length=y.ts.length;rotate_left
 ·have g:Hid (¬x=y):=λh=>d (by rw[h]);have hn1:¬(x.ts.length:Int)=y.ts.length:=O0;go_wp2;go_ret;exact⟨I5 g.out,C.out⟩
 by_cases hm:x.rs.length=y.rs.length;rotate_left
 ·have g:Hid (¬x=y):=λh=>hm (by rw[h]);have hn1:¬(x.rs.length:Int)=y.rs.length:=O0;rw[<- d]at s;go_wp2;go_ret;exact⟨I5 g.out,C.out⟩
 have HW:=U0 hw;have N:=U0 d;have O:=U0 hm;rw[<- hw]at A;rw[<- d]at s;rw[<- hm]at n;obtain⟨b,off,hc⟩:=O_ HA.out.1;obtain⟨b',off',q⟩:=O_ HA'.out.1;have S:=U0 hc;have R:=U0 q;have t:=U0 v.out.lt;have B:=U0 u.out.lt;clear hc q v u d hm hw;go_wp2;go_loopw[5] (λi wr=>∃(k:Nat),k<=x.ts.length/\i=.int .i64 k/\Hid (∀j,j<k->x.ts.getD j ByteArray.empty=y.ts.getD j ByteArray.empty)/\Below V.heap.size V wr) (λi _=>x.ts.length-(RowKit.intOf i).toNat);exact⟨0,I4 _,rfl,λj h=>absurd h (U7 _),J4 _ _⟩;obtain⟨k,hk2,rfl,hd,a⟩:=hrel
 replace L:=(a.cell (by exact t.out)).trans L
 replace a1:=(a.cell (by exact t.out)).trans a1
 replace a2:=(a.cell (by exact t.out)).trans a2
 replace A:=(a.cell (by exact B.out)).trans A
 replace s:=(a.cell (by exact B.out)).trans s
 replace n:=(a.cell (by exact B.out)).trans n
 have z:=U0 (P5 C.out a);by_cases f:k<x.ts.length
 ·obtain⟨ha,F,p⟩:=Zb S.out f;rcases R.out with D|⟨J,E,o⟩
  ·have d:=N.out;rw[D]at d;rw[d]at f;exact absurd f (U7 _)
  subst ha;subst J;have g0:=(z.out.cell (by exact F)).trans (p k f);have g0':=(z.out.cell (by exact E)).trans (o k (by have:=N.out;omega));clear p o;by_cases c:x.ts.getD k ByteArray.empty=y.ts.getD k ByteArray.empty
  ·have Q:Hid (∀j,j<k+1->x.ts.getD j ByteArray.empty=y.ts.getD j ByteArray.empty):=λj hj=>by
    rcases P7 j k with h|h
    ·exact hd.out j h
    obtain rfl:j=k:=O0;exact c
   rw[<- c]at g0';generalize x.ts.getD k ByteArray.empty=X at*;clear c hd
   go_wp2_with fail
   go_region
   all_goals go_wp2
   all_goals go_roundw
   all_goals first
    | exact⟨k+1,O0,by go_num,Q,a.drew⟩
    | (exact P9)
  have g:Hid (¬x=y):=λh=>c (by rw[h]);generalize x.ts.getD k ByteArray.empty=X at*;generalize y.ts.getD k ByteArray.empty=Y at*;have q':=K_.2 (Ac c)
  go_wp2_with fail
  go_region
  all_goals go_wp2
  all_goals go_ret
  all_goals exact⟨I5 g.out,z.out.drew⟩
 obtain rfl:k=x.ts.length:=O0;have HX:=U0 (Io N.out hd.out);obtain⟨b,off,hc⟩:=Ue HA.out.2;obtain⟨b',off',q⟩:=Ue HA'.out.2;have S:=U0 hc;have R:=U0 q;have U:=U0 a;clear hc q hd a;go_wp2;go_loopw[6] (λi wr'=>∃(k:Nat),k<=x.rs.length/\i=.int .i64 k/\Hid (∀j,j<k->x.rs.getD j j_=y.rs.getD j j_)/\Below wr.heap.size wr wr') (λi _=>x.rs.length-(RowKit.intOf i).toNat);exact⟨0,I4 _,rfl,λj h=>absurd h (U7 _),J4 _ _⟩;obtain⟨k,hk2,rfl,hd,a⟩:=hrel
 replace a2:=(a.cell (by have:=U.out.size;have:=t.out;exact G9 t.out U.out.size)).trans a2
 replace n:=(a.cell (by exact G9 B.out U.out.size)).trans n
 have r:=U0 (P5 z.out a);by_cases f:k<x.rs.length;rotate_left
 ·obtain rfl:k=x.rs.length:=O0;have HR:Hid (x=y):=by
   have h1:=HW.out;have h2:=HX.out;have h3:=Io O.out hd.out;obtain⟨_,_,_⟩:=x;obtain⟨_,_,_⟩:=y;dsimp only at h1 h2 h3;subst h1 h2 h3;rfl
  go_wp2;go_ret;exact⟨F_ HR.out,r.out⟩
 obtain⟨ha,F,p⟩:=Zb S.out f;rcases R.out with D|⟨J,E,o⟩
 ·have d:=O.out;rw[D]at d;rw[d]at f;exact absurd f (U7 _)
 subst ha;subst J;obtain⟨ai,ci,g0,g1,g2,g3⟩:=(p k f).below F r.out;obtain⟨bi,di,p0,p1,p2,p3⟩:=(o k (by have:=O.out;omega)).below E r.out;have G3:=U0 g3;have P3:=U0 p3;have hx3:=X3.out k;have hy3:=Y3.out k;clear p o g3 p3;by_cases c:x.rs.getD k j_=y.rs.getD k j_
 ·have Q:Hid (∀j,j<k+1->x.rs.getD j j_=y.rs.getD j j_):=λj hj=>by
   rcases P7 j k with h|h
   ·exact hd.out j h
   obtain rfl:j=k:=O0;exact c
  have P:=U0 c;generalize x.rs.getD k j_=X at*;generalize y.rs.getD k j_=Y at*;clear c hd
  go_wp2_with fail
  go_region_with(go_at_call 91;refine(c91 X Y ai bi ci di _ hx3 hy3 (V8 G3.out (J4 _ _).drew) (V8 P3.out (J4 _ _).drew)).mono ?_;rintro e w1⟨⟨K,rfl,H⟩,I⟩;obtain rfl:K=true:=H.2 P.out)
  all_goals go_wp2
  all_goals go_roundw
  all_goals first
   | exact⟨k+1,O0,by go_num,Q,(a.drew).trans (I.mono a.size)⟩
   | (exact P9)
 have g:Hid (¬x=y):=λh=>c (by rw[h]);have P:=U0 c;generalize x.rs.getD k j_=X at*;generalize y.rs.getD k j_=Y at*;clear c hd
 go_wp2_with fail
 go_region_with(go_at_call 91;refine(c91 X Y ai bi ci di _ hx3 hy3 (V8 G3.out (J4 _ _).drew) (V8 P3.out (J4 _ _).drew)).mono ?_;rintro e w1⟨⟨K,rfl,H⟩,I⟩;obtain rfl:K=false:=Pj.2 (λh=>P.out (H.1 h)))
 all_goals go_wp2
 all_goals go_ret
 all_goals exact⟨I5 g.out,(r.out.drew).trans (I.mono r.out.size)⟩
def yQ(s:BY):Prop:=s=⟨#[]⟩\/Y5 s.data.toList=true
def Pg(r:Rn):Prop:=Ee r.ls/\(((r.md=0\/r.md=1)/\(r.cd=0/\r.tx=⟨#[]⟩)/\yQ r.wt)\/(r.md=2/\vr r.cd r.tx.data.toList=true/\r.wt=⟨#[]⟩))
theorem Vj{s:BY}(h:¬s=⟨#[]⟩):(s.toList==([]:List UInt8))=false:=K_.2 (λe=>h (by
 apply mg;rw[ByteArray.toList_eq]at e;exact Xk.1 e))
theorem c196(x:Rn)(c:OA)(b:Nat)(w:World):
 Calls prog 196 #[.agg #[.string x.nm,.int .i64 x.md,.string x.wt,.slice c x.ls.length b,.int .i64 x.cd,.string x.tx]] w λe w'=>Rb (x.md=1/\x.wt=⟨#[]⟩) e/\Bw w w':=by
 go_in
 go_upto_region 1 with fail
 have f:=U0 (U3 w [vS x.nm,vI x.md,vS x.wt,vL c x.ls.length b,vI x.cd,vS x.tx] 178);have d:=U0 (P6 (w:=w) (o:=.cells #[vS x.nm,vI x.md,vS x.wt,vL c x.ls.length b,vI x.cd,vS x.tx] 178));generalize w.alloc (.cells #[vS x.nm,vI x.md,vS x.wt,vL c x.ls.length b,vI x.cd,vS x.tx] 178)=V at*;have a1:=f.out.cell 1;have a2:=f.out.cell 2;simp only[gz]at a1 a2;by_cases h1:x.md=1;rotate_left
 ·have a:Hid (¬(x.md=1/\x.wt=⟨#[]⟩)):=λh=>h1 h.1;go_wp2;go_ret;exact⟨I5 a,d⟩
 rw[h1]at a1;by_cases h2:x.wt=⟨#[]⟩
 ·have g:Hid (x.md=1/\x.wt=⟨#[]⟩):=⟨h1,h2⟩;rw[h2]at a2;go_wp2;go_ret;exact⟨F_ g,d⟩
 have a:Hid (¬(x.md=1/\x.wt=⟨#[]⟩)):=λh=>h2 h.2;have z:=Vj h2;go_wp2;go_ret;exact⟨by first|exact I5 a.out|(rw[z];exact I5 a)|(simp only[z];exact I5 a.out),d⟩
theorem c127(x:Rn)(c:OA)(f:Nat)(w:World)(A:x.le 1048576)(B:X6 w c x.ls):
 Calls prog 127 #[.agg #[.string x.nm,.int .i64 x.md,.string x.wt,.slice c x.ls.length f,.int .i64 x.cd,.string x.tx]] w λe w'=>Rb (Pg x) e/\Bw w w':=by
 have H:=U0 B;have g:=U0 A
 go_in
 go_upto_region 1 with fail
 have n:=U0 (U3 w [vS x.nm,vI x.md,vS x.wt,vL c x.ls.length f,vI x.cd,vS x.tx] 178);have u:=U0 (P6 (w:=w) (o:=.cells #[vS x.nm,vI x.md,vS x.wt,vL c x.ls.length f,vI x.cd,vS x.tx] 178));generalize w.alloc (.cells #[vS x.nm,vI x.md,vS x.wt,vL c x.ls.length f,vI x.cd,vS x.tx] 178)=V at*;have D:=n.out.cell 3;simp only[gz]at D
 go_wp2_with fail
 refine(JX c f x.ls V g.out.2.2.1.1 g.out.2.2.1.2 (Z4 H u)).mono ?_;rintro e q⟨⟨C,rfl,i⟩,s⟩;have d:=U0 (n.out.below s n.out.lt);have b:=U0 (P5 u s);have a1:=d.out.cell 1;have a2:=d.out.cell 2;have j:=d.out.cell 4;have t:=d.out.cell 5;simp only[gz]at a1 a2 j t
 cases C with
 | false=>
  have a:Hid (¬Pg x):=λh=>by have:=i.2 h.1;cases this
  go_wp2;go_ret;exact⟨I5 a.out,b.out⟩
 | true=>
 have m:=U0 (i.1 rfl);clear i;by_cases hm:x.md=0\/x.md=1
 ·by_cases hc:x.cd=0;rotate_left
  ·have a:Hid (¬Pg x):=λh=>by
    rcases h.2 with⟨_,k,_⟩|⟨k,_⟩
    ·exact hc k.1
    rw[k]at hm;omega
   rcases hm with hm|hm
   all_goals
    rw[hm]at a1;go_wp2;go_ret;exact⟨I5 a,b⟩
  by_cases ht:x.tx=⟨#[]⟩;rotate_left
  ·have a:Hid (¬Pg x):=λh=>by
    rcases h.2 with⟨_,k,_⟩|⟨k,_⟩
    ·exact ht k.2
    rw[k]at hm;omega
   have z:=Vj ht;have z1:=K_.1 z;rw[hc]at j;rcases hm with hm|hm
   all_goals
    rw[hm]at a1;go_wp2;go_ret;exact⟨I5 a,b⟩
  rw[hc]at j;rw[ht]at t;by_cases hw:x.wt=⟨#[]⟩
  ·have l:Hid (Pg x):=⟨m,.inl ⟨hm,⟨hc,ht⟩,.inl hw⟩⟩;rw[hw]at a2;rcases hm with hm|hm
   all_goals
    rw[hm]at a1;go_wp2;go_ret;exact⟨F_ l,b⟩
  have z:=Vj hw;have F:Hid (Y5 x.wt.data.toList=true↔Pg x):=⟨λh=>⟨m,.inl ⟨hm,⟨hc,ht⟩,.inr h⟩⟩,λh=>by
   rcases h.2 with⟨_,_,k⟩|⟨k,_⟩
   ·exact k.resolve_left hw
   rw[k]at hm;omega⟩
  rcases hm with hm|hm
  all_goals
   rw[hm]at a1
   go_wp2_with fail
   refine(c124 x.wt q (by have:=g.out.2.1;omega)).mono ?_;rintro e v⟨rfl,y⟩;obtain rfl:=y.symm;go_wp2;go_ret;exact⟨⟨_,rfl,F⟩,b⟩
 by_cases h2:x.md=2;rotate_left
 ·have a:Hid (¬Pg x):=λh=>by
   rcases h.2 with⟨k,_⟩|⟨k,_⟩
   ·exact hm k
   exact h2 k
  have m0:¬x.md=0:=λh=>hm (.inl h);have m1:¬x.md=1:=λh=>hm (.inr h);go_wp2;go_ret;exact⟨I5 a,b⟩
 rw[h2]at a1;have E:=U0 (wO x.cd x.tx q (by have:=g.out.2.2.2;omega))
 go_wp2_with fail
 refine E.out.mono ?_;rintro e v⟨rfl,r⟩;have I:=U0 (d.out.below r d.out.lt);have p:=U0 (P5 b r);have a2:=I.out.cell 2;simp only[gz]at a2;by_cases hv:vr x.cd x.tx.data.toList=true;rotate_left
 ·have a:Hid (¬Pg x):=λh=>by
   rcases h.2 with⟨k,_⟩|⟨_,k,_⟩
   ·exact hm k
   exact hv k
  rw[Pj.2 hv];go_wp2;go_ret;exact⟨I5 a,p⟩
 rw[hv];by_cases hw:x.wt=⟨#[]⟩
 ·have l:Hid (Pg x):=⟨m,.inr ⟨h2,hv,hw⟩⟩;rw[hw]at a2;go_wp2;go_ret;exact⟨F_ l,p⟩
 have z:=Vj hw;have a:Hid (¬Pg x):=λh=>by
  rcases h.2 with⟨k,_⟩|⟨_,_,k⟩
  ·exact hm k
  exact hw k
 go_wp2;go_ret;exact⟨by first|exact I5 a.out|(rw[z];exact I5 a)|(simp only[z];exact I5 a.out),p⟩
