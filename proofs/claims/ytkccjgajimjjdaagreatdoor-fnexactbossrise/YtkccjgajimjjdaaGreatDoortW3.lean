import Derived.Test.YtkccjgajimjjdaaGreatDooryA
set_option linter.unusedVariables false
set_option maxHeartbeats 8000000
set_option maxRecDepth 100000
namespace Go.Proofs.YtkccjgajimjjdaaGreatDoor
open Proofs.Tryz Go.RowKit
variable{w:World}{l:List UInt8}{c:Int}{x:L4}{ls:List L4}
theorem kM(l:List UInt8)(w:World)(hs:l.length<=1048700)(hm:Jc w):
 Calls prog 222 #[.string (I4 l),.string ⟨#[32]⟩] w λe w'=>(∃y,e=.returned (.tuple #[.string (I4 (Y2 l)),.string (I4 (J3 l)),.bool y]))/\Below w.heap.size w w':=by
 obtain⟨_,m,hm⟩:=hm;refine(Tryz.strings_Cut (I4 l) ⟨#[32]⟩ m w (by rw[P5];omega) hm).mono ?_;rintro e w'⟨rfl,n,rfl⟩;refine⟨⟨(Lib.cut l [32]).2.2,?_⟩,below_drewN n⟩;rw[<- NJ,<- UF];rfl
theorem QK{ss:LB}{ls:List (List UInt8)}(h:ss.map (·.data.toList)=ls):ss=ls.map I4:=by
 rw[<- h,Nw]
 conv=>lhs;rw[<- PD ss]
 refine Tz λs _=>?_;exact Tc rfl
theorem a2i(l:List UInt8)(w:World)(hs:l.length<=1048700)(hm:Jc w):
 Calls prog 289 #[.string (I4 l),.string ⟨#[32]⟩,.int .i64 3] w λe w'=>(∃cap,e=.returned (.slice (some ⟨w.heap.size,0,none⟩) (Le l 2).length cap)/\Oc w' w.heap.size (Le l 2))/\Below w.heap.size w w':=by
 obtain⟨_,m,hm⟩:=hm;refine(Tryz.strings_SplitN (I4 l) ⟨#[32]⟩ 3 m w (by rw[P5];omega) hm Z5 O0 O0).mono ?_;have hd:Lib.splitB ⟨#[32]⟩ 0 (min 3 ((I4 l).size+1)-1) (I4 l)=(Le l 2).map I4:=by
  refine QK ?_;rw[Lib.splitB_data ⟨#[32]⟩ 0 (min 3 ((I4 l).size+1)-1) (I4 l),P5,<- FO l];rfl
 have hlen:(Le l 2).length<=min 3 ((I4 l).size+1):=by
  have:=Lib.splitB_length_le ⟨#[32]⟩ 0 (min 3 ((I4 l).size+1)-1) (I4 l);rw[hd,Cf]at this;omega
 rintro e w'⟨rfl,rfl⟩;rw[hd];refine⟨⟨_,by rw[Cf],E5,λi a=>?_⟩,Y6⟩;have hc:(Lib.cellsOf ((Le l 2).map I4) (min 3 ((I4 l).size+1)))[i]?=some (vS (I4 ((Le l 2).getD i []))):=by
  unfold Lib.cellsOf;rw[List.getElem?_toArray,G_ (by simpa using a)];simp[a]
 rw[<- hc];simp
theorem rz3{u:World}(a:Below (w.heap.size+1) (w.alloc (.cells #[.string ⟨#[]⟩,.string ⟨#[]⟩,.string ⟨#[]⟩] 69)) u):
 (u.cell? ⟨w.heap.size,0,none⟩=some (.string ⟨#[]⟩)/\u.cell? ⟨w.heap.size,1,none⟩=some (.string ⟨#[]⟩)/\u.cell? ⟨w.heap.size,2,none⟩=some (.string ⟨#[]⟩))/\u.frozen? ⟨w.heap.size,0,none⟩=false/\u.frozen? ⟨w.heap.size,1,none⟩=false/\u.frozen? ⟨w.heap.size,2,none⟩=false:=by
 have c:∀j,u.cell? (aW w j)=(w.alloc (.cells #[vE,vE,vE] 69)).cell? (aW w j):=λj=>a.cell E5;have f:∀j,u.frozen? (aW w j)=(w.alloc (.cells #[vE,vE,vE] 69)).frozen? (aW w j):=λj=>a.frozen E5;rw[c,c,c,f,f,f];simp
theorem gQ{p q:Addr}{x:Value}(a:q.block≠p.block)(h:w.cell? p=some x)(v:Value):(w.setCell q v).cell? p=some x:=by
 rw[Xb _ _ _ _ (λe=>a (by rw[e]))];exact h
theorem BP(l:List UInt8)(w:World)(a:l.length<=1048700):Calls prog 228 #[.string (I4 l)] w λe w'=>RN l e/\Below w.heap.size w w':=c228 (I4 l) w (by rw[P5];exact a)
def a0f(l:List UInt8)(e:Ending):Prop:=∃(x:M3)(ok:Bool),e=.returned (.tuple #[x.v,.bool ok])/\Iy l x ok
theorem a1V(l:List UInt8)(w:World)(hs:l.length<=16000)(Y:Jc w):
 Calls prog 247 #[.string (I4 l)] w λe w'=>a0f l e/\Below w.heap.size w w':=by
 have z:(∀y,Uf y=true->l≠Yd y)->Hid (a0f l (.returned (.tuple #[.agg #[vE,vE,vE],.bool false]))):=λh=>⟨L_,false,rfl,vT h⟩;have o:Below w.heap.size w (w.alloc (.cells #[vE,vE,vE] 69)):=Y6
 go_in
 go_wp2_with fail
 refine(a2i l _ O0 (Q9 Y o)).mono ?_;rintro e w1⟨⟨cap,rfl,Z⟩,hb1⟩;have I:Below (w.heap.size+1) (w.alloc (.cells #[vE,vE,vE] 69)) w1:=YD hb1;have S:=o.trans (I.mono O0);have q:Hid (Oc w1 (w.heap.size+1) (Le l 2)):=by have h:=Z;simp at h;exact h
 obtain⟨⟨c,b,a⟩,u,s,r⟩:=rz3 I;by_cases hm:(32:UInt8)∈l
 ·by_cases C:(32:UInt8)∈J3 l
  ·have n:Le l 2=[Y2 l,Y2 (J3 l),J3 (J3 l)]:=by rw[Xl 1 hm,Xl 0 C,sJ]
   rw[n]at q ⊢;have J:=q.out.1;have X:w1.cell? (aA (w.heap.size+1) 0)=some (vS (I4 (Y2 l))):=q.out.2 0 E5;have W:w1.cell? (aA (w.heap.size+1) 1)=some (vS (I4 (Y2 (J3 l)))):=q.out.2 1 E5;have p2:w1.cell? (aA (w.heap.size+1) 2)=some (vS (I4 (J3 (J3 l)))):=q.out.2 2 E5;have hr1:=Y8 l;have hr2:=Y8 (J3 l);have hbp:=λ(t:List UInt8) (ok:Bool) x=>zG (l:=l) (t:=t) (ok:=ok) hm C x;generalize hA:Y2 l=A at*;generalize hR:J3 l=R at*;generalize hBB:Y2 R=B at*;generalize hQ:J3 R=Q at*;simp only[u_,Td]
   go_wp2_with fail
   refine(BP _ _ O0).mono ?_;rintro e k⟨⟨t,ok,rfl,x⟩,D⟩;have i:=I.trans (D.mono O0);have E:=o.trans (i.mono O0);have O:=U9 J D.size;have V:=(D.cell (by exact J)).trans X;have U:=(D.cell (by exact J)).trans W;have q0':=past (by exact O) V;have q1':=past (by exact O) U;obtain⟨⟨c,b,a⟩,u,s,r⟩:=rz3 i;have d:w.heap.size<k.heap.size:=O0;have z0':=past (by exact d) c;have z1':=past (by exact d) b;have z2':=past (by exact d) a;have y0':=XG (by exact d) u;have y1':=XG (by exact d) s;have y2':=XG (by exact d) r;have N:=hbp t ok x;cases ok
   ·have f:=z (N.2 E5)
    go_wp2_with fail
    go_region
    all_goals
     go_wp2_with fail
     have F:=Kq k w.heap.size 0 vE vE vE _ _ _ c b a;simp only[o9]at F;have G0:=past (p:=(aW w 0)) (by simpa using d) F.1;have G1:=past (p:=(aW w 1)) (by simpa using d) F.2.1;have G2:=past (p:=(aW w 2)) (by simpa using d) F.2.2;refine Q7 (v:=.tuple #[.agg #[vE,vE,vE],.bool false]) (by simp[results,results247,go_sem,G0,G1,G2]) rfl ⟨f,?_⟩
     first
      | exact((((E.setCell E5 _).setCell E5 _).setCell E5 _).alloc (by simpa using E.size) _).drew
      | exact(((E.setCell E5 _).setCell E5 _).setCell E5 _).alloc (by simpa using E.size) _
   have hQl:=x.1 rfl;have htl:t.length<=16000:=by
    have:=Zo t;rw[<- hQl]at this;omega
   have P:(⟨I4 A,I4 B,I4 t⟩:M3).le 1048700:=⟨by rw[P5];omega,by rw[P5];omega,by rw[P5];omega⟩;cases hk:Uf ⟨I4 A,I4 B,I4 t⟩
   ·have f:=z (N.2 (by rw[hk];simp));have L:=λw'=>tK hk w' P
    go_wp2_with fail
    go_region
    all_goals
     go_wp2_with fail
     refine(L _).mono ?_;rintro e g⟨rfl,j⟩;have m:Below (w.heap.size+1) (w.alloc (.cells #[vE,vE,vE] 69)) g:=by
      refine Below.trans ?_ (j.mono Q8)
      first|exact(i.alloc O0 _).drew|exact i.alloc O0 _
     have K:=o.trans (m.mono O0);obtain⟨⟨c,b,a⟩,u,s,r⟩:=rz3 m;go_wp2;refine Q7 (v:=.tuple #[.agg #[vE,vE,vE],.bool false]) (by simp[results,results247,go_sem,c,b,a]) rfl ⟨f,((K.setCell E5 _).setCell E5 _).setCell E5 _⟩
   have f:Hid (a0f l (.returned (.tuple #[.agg #[vS (I4 A),vS (I4 B),vS (I4 t)],.bool true]))):=⟨⟨I4 A,I4 B,I4 t⟩,true,rfl,N.1 rfl hk⟩;have L:=λw'=>tK hk w' P
   go_wp2_with fail
   go_region
   all_goals
    go_wp2_with fail
    refine(L _).mono ?_;rintro e g⟨rfl,j⟩;have m:Below (w.heap.size+1) (w.alloc (.cells #[vE,vE,vE] 69)) g:=by
     refine Below.trans ?_ (j.mono Q8)
     first|exact(i.alloc O0 _).drew|exact i.alloc O0 _
    have K:=o.trans (m.mono O0);have m0:g.cell? (aW k 0)=some (vS (I4 A)):=by rw[j.cell E5];simp[go_sem]
    have m1:g.cell? (aW k 1)=some (vS (I4 B)):=by rw[j.cell E5];simp[go_sem]
    have m2:g.cell? (aW k 2)=some (vS (I4 t)):=by rw[j.cell E5];simp[go_sem]
    obtain⟨⟨c,b,a⟩,u,s,r⟩:=rz3 m;go_wp2;have F:=Kq g w.heap.size 0 (vS (I4 A)) (vS (I4 B)) (vS (I4 t)) _ _ _ c b a;simp only[o9]at F;refine Q7 (v:=.tuple #[.agg #[vS (I4 A),vS (I4 B),vS (I4 t)],.bool true]) (by simp[results,results247,go_sem,F.1,F.2.1,F.2.2]) rfl ⟨f,((K.setCell E5 _).setCell E5 _).setCell E5 _⟩
  have n:Le l 2=[Y2 l,J3 l]:=by rw[Xl 1 hm,Di _ C]
  have f:=z (λy H e=>C (Kw H e).1.2);rw[n];simp only[u_,Td];go_wp2;refine Q7 (v:=.tuple #[.agg #[vE,vE,vE],.bool false]) (by simp[results,results247,go_sem,c,b,a]) rfl ⟨f,((S.setCell E5 _).setCell E5 _).setCell E5 _⟩
 have n:Le l 2=[l]:=Di _ hm;have f:=z (λy H e=>hm (Kw H e).1.1);rw[n];simp only[u_,Td];go_wp2;refine Q7 (v:=.tuple #[.agg #[vE,vE,vE],.bool false]) (by simp[results,results247,go_sem,c,b,a]) rfl ⟨f,((S.setCell E5 _).setCell E5 _).setCell E5 _⟩
theorem dw(n:Int)(h0:0<=n)(h1:n<=1000):(dec n).length<=4:=by
 by_cases a:n<10
 ·rw[dec_lt n a];simp
 rw[Wj n O0,P9];by_cases b:n / 10<10
 ·rw[dec_lt _ b];simp
 rw[Wj (n / 10) O0,P9];by_cases c:n / 10 / 10<10
 ·rw[dec_lt _ c];simp
 rw[Wj (n / 10 / 10) O0,P9];have d:n / 10 / 10 / 10<10:=O0;rw[dec_lt _ d];simp
theorem lY(n:Int)(h1:n<10):(dec n).length=1:=by rw[dec_lt n h1];rfl
theorem Nk(h:X6 l=true):1<=l.length/\l.length<=20:=by
 unfold X6 at h;rw[Ia,rf]at h;exact h.1
theorem NF(h:vr c l=true):l.length<=300:=by
 rcases D8 300 l.length with h1|h1
 ·rw[IE h1]at h;cases h
 exact h1
theorem yt(l:List UInt8):(J6 l).length<=3*l.length+2:=by
 have:=Qu l;unfold J6;simp only[u_,P9,Td];omega
theorem rV(h:ji x):x.nm.data.toList.length<=20/\x.tx.data.toList.length<=300:=by
 have a:=Nk h.1;refine⟨a.2,?_⟩;rcases h.2 with⟨_,⟨_,h⟩|⟨_,h⟩⟩|⟨_,h⟩
 ·rw[h];exact J4 _
 ·rw[h];omega
 exact NF h
theorem TF{t:BY}(h0:0<=c)(h1:c<=7)(ht:t.data.toList.length<=300):(Dc c t).length<=904:=by
 have a:=lY c O0;have b:=yt t.data.toList;unfold Dc;simp only[P9,u_,Td];omega
theorem xR(h:ji x):(Jq x).length<=930:=by
 obtain⟨a,b⟩:=rV h;have hc:=Cj h;have r:=TF hc.1 hc.2 b;have w4:(Gx x.has).data.toList.length=4:=by cases x.has<;>rfl
 unfold Jq;simp only[P9,u_,Td];omega
theorem EJ(h:yg ls):∀k,k<=ls.length->(P_ (ls.take k)).length<=k*930:=by
 intro k
 induction k with
 | zero=>intro _;simp[P_]
 | succ k ih=>
  intro hk;rw[Nz ls k O0,P9];have:=xR (h.2 k O0);have:=ih O0;omega
theorem Xw(h:yg ls):(P_ ls).length<=13950:=by
 have:=EJ h ls.length X7;rw[C_ X7]at this;have:=h.1;omega
theorem mF{x:M3}(h:Uf x=true):x.nm.data.toList.length<=20/\x.tl.data.toList.length<=20/\x.ar.data.toList.length<=300:=by
 unfold Uf at h;simp only[Ia,rf]at h;have e:x.ar.data.toList.length=x.ar.size:=E5;exact⟨(Nk h.1.1).2,(Nk h.1.2).2,O0⟩
end Go.Proofs.YtkccjgajimjjdaaGreatDoor
namespace Go.Proofs.YtkccjgajimjjdaaGreatDoor.T
open Proofs.Tryz Go.RowKit
variable{w w':World}{b base n:Nat}{v:Value}{fs:List F2}
theorem c34(a b:OA)(cap d:Nat)(is:List F2)(w:World)(hl:is.length<=1048576)(g:G6 w a is)(f:G6 w b is):
 Calls prog 34 #[.agg #[.slice a is.length cap],.agg #[.slice b is.length d]] w λe w'=>e=.returned (.bool true)/\Bw w w':=by
 have j:=U0 g;have i:=U0 f;clear g f;have c:Bw w ((w.alloc (.cells #[vL a is.length cap] 40)).alloc (.cells #[vL b is.length d] 40)):=Y6.alloc E5 _
 go_in
 go_wp2_with fail
 refine(a4t a b cap d is _ hl (U5 j.out c) (U5 i.out c)).mono ?_;rintro e w1⟨rfl,h⟩;go_wp2;go_ret;exact⟨rfl,J5 c h⟩
def zq(w:World)(b n:Nat):Prop:=b<w.heap.size/\(∀j,j<n*2->∃v,w.cell? ⟨b,j,none⟩=some v)/\∀j,w.frozen? ⟨b,j,none⟩=false
theorem zq.below(h:zq w b n)(a:Bw w w'):zq w' b n:=
 ⟨U9 h.1 a.size,λj c=>by rw[a.cell (by exact h.1)];exact h.2.1 j c,λj=>by rw[a.frozen (by exact h.1)];exact h.2.2 j⟩
theorem zq.set{j:Nat}(h:zq w b n)(hj:j<n*2):zq (w.setCell ⟨b,j,none⟩ v) b n:=by
 refine⟨by simpa using h.1,λi a=>?_,λi=>by have:=h.2.2 i;simpa using this⟩;by_cases e:i=j
 ·subst e;obtain⟨x,hx⟩:=h.2.1 i a;exact⟨v,Pg _ _ _ hx⟩
 rw[Xb _ _ _ _ (Pe (Ym e))];exact h.2.1 i a
def U3(fs:List F2):List Value:=fs.flatMap λx=>[.string x.nm,.string x.tx]
theorem X8(fs:List F2):(U3 fs).length=fs.length*2:=by
 induction fs with
 | nil=>rfl
 | cons x r ih=>unfold U3 at *;simp only[List.flatMap_cons,List.length_append,List.length_cons,List.length_nil,ih];omega
theorem Ae(fs gs:List F2):U3 (fs++gs)=U3 fs++U3 gs:=by simp[U3]
theorem Ee(fs:List F2)(i:Nat)(h:i<fs.length):(U3 fs)[i*2]?=some (.string (fs.getD i G9).nm)/\(U3 fs)[i*2+1]?=some (.string (fs.getD i G9).tx):=by
 induction fs generalizing i with
 | nil=>simp at h
 | cons x r ih=>
  cases i with
  | zero=>exact⟨rfl,rfl⟩
  | succ i=>
   have:=ih i (by simpa using h);have e:∀j,(U3 (x::r))[(i+1)*2+j]?=(U3 r)[i*2+j]?:=λj=>by
    show([Value.string x.nm,vS x.tx]++U3 r)[(i+1)*2+j]?=_;rw[Ue Q8]
    congr 1
    simp;omega
   have e0:=e 0;simp only[Qo]at e0;rw[e0,e 1];exact this
theorem He:∀u∈U3 fs,u.oneCell'=true:=by
 intro u a;unfold U3 at a;obtain⟨x,_,hx⟩:=Gv.1 a;simp at hx;rcases hx with rfl|rfl<;>rfl
def Ql(w:World)(base:Nat)(v:Value)(fs:List F2):Prop:=w.ownsRow base 67 2 v fs.length (U3 fs)
theorem Ql.form(h:Ql w base v fs):∃a cap,v=.slice a fs.length cap/\G6 w a fs:=by
 have b:=h;rcases h.2 with⟨hv,h0⟩|⟨g,cap,cur,hv,hg,d,_⟩
 ·exact⟨none,0,by rw[hv,h0],.inl (Qb.1 h0)⟩
 refine⟨some (aA g 0),cap,hv,?_⟩;subst hv;refine .inr ⟨g,0,rfl,mg d,λi c=>?_⟩;obtain⟨e0,e1⟩:=Ee fs i c;rw[o9,b.cellAt _ O0,b.cellAt _ O0];exact⟨e0,e1⟩
theorem Ql.below(h:Ql w base v fs)(a:Bw w w'):Ql w' base v fs:=ownsRow_below h a
theorem Yw{off:Nat}(h:∀i,i<fs.length->w.cell? ⟨b,off+i*2,none⟩=some (.string (fs.getD i G9).nm)/\w.cell? ⟨b,off+i*2+1,none⟩=some (.string (fs.getD i G9).tx))(j:Nat)(u:Value)(a:(U3 fs)[j]?=some u):w.cell? ((⟨b,off,none⟩:Addr).add j)=some u:=by
 have hl:j<fs.length*2:=by rw[<- X8];exact(Zi.1 a).1
 have e:(aA b off).add j=(aA b (off+j)):=by unfold Addr.add;split<;>simp_all
 rw[e];obtain⟨e0,e1⟩:=Ee fs (j / 2) O0;obtain⟨h0,h1⟩:=h (j / 2) O0;rcases ZI j with hm|hm
 ·have c:j / 2*2=j:=O0;rw[c]at e0 h0;rw[e0]at a;rw[h0];exact a
 have c:j / 2*2+1=j:=O0;rw[c]at e1;rw[Kv,c]at h1;rw[e1]at a;rw[h1];exact a
theorem a1s(a:OA)(cap:Nat)(fs:List F2)(w:World)(hl:fs.length<=1000)(i:G6 w a fs):
 Calls prog 158 #[.slice a fs.length cap] w λe w'=>∃v',e=.returned v'/\Ql w' w.heap.size v' fs/\Bw w w':=by
 have q27:∀(w:World)(a:OA)(n c f m:Nat),(binOp .eql 38 (vL a n c) (vL none f m)).run prog w=.ok (.bool a.isNone) w:=λw a n c f m=>Lib.run_eql_slice_nil w _ _ a n c f m underlying38
 cases a with
 | none=>
  obtain rfl:fs=[]:=by
   rcases i with h|⟨b,off,h,_⟩
   ·exact h
   cases h
  go_in
  go_wp2;go_ret;exact⟨_,rfl,⟨rfl,.inl ⟨rfl,rfl⟩⟩,G5 _ _⟩
 | some ad=>
  obtain⟨W,l⟩:∃W:World,W=w.alloc (.cells #[] 67):=⟨_,rfl⟩;have d:Bw w W:=by rw[l];exact Y6
  have p:Hid (W.ownsRow w.heap.size 67 2 (vL (some (aW w 0)) 0 0) 0 []):=by show World.ownsRow _ _ _ _ _ _ _;rw[l];exact dK w #[] 0 X7 (J4 _) rfl
  have s:Hid (Src W (vL (some ad) fs.length cap) 2 fs.length (U3 fs)):=by
   refine .inr ⟨ad,cap,rfl,X8 fs,λj u o=>?_⟩;rcases i with rfl|⟨b,off,h,r,hc⟩
   ·simp[U3]at o
   injection h with h;subst h;have h:=Yw hc j u o;rw[Bo]at h ⊢;exact(d.cell r).trans h
  clear i
  go_in
  go_wp2_with(at_builtin;rw[<- l];refine Vd rfl _ _ 38 rfl w.heap.size 67 2 underlying38 (Zc Y1) Z5 (vL (some (aW w 0)) 0 0) 0 [] rfl p.out _ fs.length (U3 fs) rfl s.out He O0 d.size ?_;intro v' w1 O g _;rw[o9,j_]at O;have t:=U0 O;have v:=U0 ((d.grown g d.size (λk q=>(p.out.lt k q).1)));clear O g)
  go_ret;exact⟨_,rfl,t.out,v.out⟩
