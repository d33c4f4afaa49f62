import Derived.Test.YtdgneicbmalnpaaGreatDoortV2
set_option linter.all false
set_option maxHeartbeats 0
set_option maxRecDepth 99999
open Go.Value renaming slice->Sa,string->Sb,int->Sc,pointer->Sd
open Go.IntKind renaming i64->Se
open Go.Ending renaming returned->Sf
open Go.Obj renaming cells->Sg
namespace Go.Proofs.YtdgneicbmalnpaaGreatDoor
open Proofs.Tryz Go.RowKit
variable{w:World}{l:List UInt8}{c:Int}{x:L4}{ls:List L4}
theorem IL(l:List UInt8)(w:World)(hs:l.length<=1048700)(hm:Vd w):
 Calls prog 256 #[Sb (U3 l),Sb ⟨#[32]⟩] w λe w'=>(∃y,e=Sf (.tuple #[Sb (U3 (Y1 l)),Sb (U3 (Y2 l)),.bool y]))/\Below w.heap.size w w':=by
 obtain⟨_,m,hm⟩:=hm;refine(Tryz.strings_Cut (U3 l) ⟨#[32]⟩ m w (by rw[I5];omega) hm).mono ?_;rintro e w'⟨rfl,n,rfl⟩;refine⟨⟨(Lib.cut l [32]).2.2,?_⟩,below_drewN n⟩;rw[<- IK,<- LG];rfl
theorem TM{ss:LB}{ls:List (List UInt8)}(h:ss.map (·.data.toList)=ls):ss=ls.map U3:=by
 rw[<- h,Gp]
 conv=>lhs;rw[<- yG ss]
 refine ku λs _=>?_;exact Uc rfl
theorem a2R(l:List UInt8)(w:World)(hs:l.length<=1048700)(hm:Vd w):
 Calls prog 320 #[Sb (U3 l),Sb ⟨#[32]⟩,Sc Se 3] w λe w'=>(∃cap,e=Sf (.slice (some ⟨w.heap.size,0,none⟩) (Ie l 2).length cap)/\Tc w' w.heap.size (Ie l 2))/\Below w.heap.size w w':=by
 obtain⟨_,m,hm⟩:=hm;refine(Tryz.strings_SplitN (U3 l) ⟨#[32]⟩ 3 m w (by rw[I5];omega) hm U5 O0 O0).mono ?_;have hd:Lib.splitB ⟨#[32]⟩ 0 (min 3 ((U3 l).size+1)-1) (U3 l)=(Ie l 2).map U3:=by
  refine TM ?_;rw[Lib.splitB_data ⟨#[32]⟩ 0 (min 3 ((U3 l).size+1)-1) (U3 l),I5,<- EP l];rfl
 have hlen:(Ie l 2).length<=min 3 ((U3 l).size+1):=by
  have:=Lib.splitB_length_le ⟨#[32]⟩ 0 (min 3 ((U3 l).size+1)-1) (U3 l);rw[hd,Ve]at this;omega
 rintro e w'⟨rfl,rfl⟩;rw[hd];refine⟨⟨_,by rw[Ve],J4,λi a=>?_⟩,U6⟩;have hc:(Lib.cellsOf ((Ie l 2).map U3) (min 3 ((U3 l).size+1)))[i]?=some (vS (U3 ((Ie l 2).getD i []))):=by
  unfold Lib.cellsOf;rw[List.getElem?_toArray,D_ (by simpa using a)];simp[a]
 rw[<- hc];simp
theorem rz3{u:World}(a:Below (w.heap.size+1) (w.alloc (Sg #[Sb ⟨#[]⟩,Sb ⟨#[]⟩,Sb ⟨#[]⟩] 142)) u):
 (u.cell? ⟨w.heap.size,0,none⟩=some (Sb ⟨#[]⟩)/\u.cell? ⟨w.heap.size,1,none⟩=some (Sb ⟨#[]⟩)/\u.cell? ⟨w.heap.size,2,none⟩=some (Sb ⟨#[]⟩))/\u.frozen? ⟨w.heap.size,0,none⟩=false/\u.frozen? ⟨w.heap.size,1,none⟩=false/\u.frozen? ⟨w.heap.size,2,none⟩=false:=by
 have c:∀j,u.cell? (aW w j)=(w.alloc (Sg #[vE,vE,vE] 142)).cell? (aW w j):=λj=>a.cell J4;have f:∀j,u.frozen? (aW w j)=(w.alloc (Sg #[vE,vE,vE] 142)).frozen? (aW w j):=λj=>a.frozen J4;rw[c,c,c,f,f,f];simp
theorem lS{p q:Addr}{x:Value}(a:q.block≠p.block)(h:w.cell? p=some x)(v:Value):(w.setCell q v).cell? p=some x:=by
 rw[Nb _ _ _ _ (λe=>a (by rw[e]))];exact h
theorem NT(l:List UInt8)(w:World)(hs:l.length<=1048700):Calls prog 262 #[Sb (U3 l)] w λe w'=>fO l e/\Below w.heap.size w w':=a4l (U3 l) w (by rw[I5];exact hs)
def a1O(l:List UInt8)(e:Ending):Prop:=∃(x:M3)(ok:Bool),e=Sf (.tuple #[x.v,.bool ok])/\Tz l x ok
theorem a4d(l:List UInt8)(w:World)(hs:l.length<=16000)(Y:Vd w):
 Calls prog 280 #[Sb (U3 l)] w λe w'=>a1O l e/\Below w.heap.size w w':=by
 have z:(∀y,ig y=true->l≠je y)->Hid (a1O l (Sf (.tuple #[.agg #[vE,vE,vE],.bool false]))):=λh=>⟨J_,false,rfl,mV h⟩;have o:Below w.heap.size w (w.alloc (Sg #[vE,vE,vE] 142)):=U6
 go_in
 go_wp2_with fail
 refine(a2R l _ O0 (S9 Y o)).mono ?_;rintro e w1⟨⟨cap,rfl,Z⟩,hb1⟩;have I:Below (w.heap.size+1) (w.alloc (Sg #[vE,vE,vE] 142)) w1:=bG hb1;have S:=o.trans (I.mono O0);have q:Hid (Tc w1 (w.heap.size+1) (Ie l 2)):=by have h:=Z;simp at h;exact h
 obtain⟨⟨c,b,a⟩,u,s,r⟩:=rz3 I;by_cases hm:(32:UInt8)∈l
 ·by_cases C:(32:UInt8)∈Y2 l
  ·have n:Ie l 2=[Y1 l,Y1 (Y2 l),Y2 (Y2 l)]:=by rw[Xl 1 hm,Xl 0 C,BJ]
   rw[n]at q ⊢;have J:=q.o.1;have X:w1.cell? (aA (w.heap.size+1) 0)=some (vS (U3 (Y1 l))):=q.o.2 0 J4;have W:w1.cell? (aA (w.heap.size+1) 1)=some (vS (U3 (Y1 (Y2 l)))):=q.o.2 1 J4;have p2:w1.cell? (aA (w.heap.size+1) 2)=some (vS (U3 (Y2 (Y2 l)))):=q.o.2 2 J4;have hr1:=X8 l;have hr2:=X8 (Y2 l);have hbp:=λ(t:List UInt8) (ok:Bool) x=>NI (l:=l) (t:=t) (ok:=ok) hm C x;generalize hA:Y1 l=A at*;generalize hR:Y2 l=R at*;generalize hBB:Y1 R=B at*;generalize hQ:Y2 R=Q at*;simp only[f_,Fb]
   go_wp2_with fail
   refine(NT _ _ O0).mono ?_;rintro e k⟨⟨t,ok,rfl,x⟩,D⟩;have i:=I.trans (D.mono O0);have E:=o.trans (i.mono O0);have O:=P9 J D.size;have V:=(D.cell (by exact J)).trans X;have U:=(D.cell (by exact J)).trans W;have q0':=past (by exact O) V;have q1':=past (by exact O) U;obtain⟨⟨c,b,a⟩,u,s,r⟩:=rz3 i;have d:w.heap.size<k.heap.size:=O0;have z0':=past (by exact d) c;have z1':=past (by exact d) b;have z2':=past (by exact d) a;have y0':=XH (by exact d) u;have y1':=XH (by exact d) s;have y2':=XH (by exact d) r;have N:=hbp t ok x;cases ok
   ·have f:=z (N.2 J4)
    go_wp2_with fail
    go_region
    all_goals
     go_wp2_with fail
     have F:=Vs k w.heap.size 0 vE vE vE _ _ _ c b a;simp only[Y8]at F;have G0:=past (p:=(aW w 0)) (by simpa using d) F.1;have G1:=past (p:=(aW w 1)) (by simpa using d) F.2.1;have G2:=past (p:=(aW w 2)) (by simpa using d) F.2.2;refine P7 (v:=.tuple #[.agg #[vE,vE,vE],.bool false]) (by simp[results,results280,go_sem,G0,G1,G2]) rfl ⟨f,?_⟩
     first
      | exact((((E.setCell J4 _).setCell J4 _).setCell J4 _).alloc (by simpa using E.size) _).drew
      | exact(((E.setCell J4 _).setCell J4 _).setCell J4 _).alloc (by simpa using E.size) _
   have hQl:=x.1 rfl;have htl:t.length<=16000:=by
    have:=Fp t;rw[<- hQl]at this;omega
   have P:(⟨U3 A,U3 B,U3 t⟩:M3).le 1048700:=⟨by rw[I5];omega,by rw[I5];omega,by rw[I5];omega⟩;cases hk:ig ⟨U3 A,U3 B,U3 t⟩
   ·have f:=z (N.2 (by rw[hk];simp));have L:=λw'=>XM hk w' P
    go_wp2_with fail
    go_region
    all_goals
     go_wp2_with fail
     refine(L _).mono ?_;rintro e g⟨rfl,j⟩;have m:Below (w.heap.size+1) (w.alloc (Sg #[vE,vE,vE] 142)) g:=by
      refine tC ?_ (j.mono L8)
      first|exact(i.alloc O0 _).drew|exact i.alloc O0 _
     have K:=o.trans (m.mono O0);obtain⟨⟨c,b,a⟩,u,s,r⟩:=rz3 m;go_wp2;refine P7 (v:=.tuple #[.agg #[vE,vE,vE],.bool false]) (by simp[results,results280,go_sem,c,b,a]) rfl ⟨f,((K.setCell J4 _).setCell J4 _).setCell J4 _⟩
   have f:Hid (a1O l (Sf (.tuple #[.agg #[vS (U3 A),vS (U3 B),vS (U3 t)],.bool true]))):=⟨⟨U3 A,U3 B,U3 t⟩,true,rfl,N.1 rfl hk⟩;have L:=λw'=>XM hk w' P
   go_wp2_with fail
   go_region
   all_goals
    go_wp2_with fail
    refine(L _).mono ?_;rintro e g⟨rfl,j⟩;have m:Below (w.heap.size+1) (w.alloc (Sg #[vE,vE,vE] 142)) g:=by
     refine tC ?_ (j.mono L8)
     first|exact(i.alloc O0 _).drew|exact i.alloc O0 _
    have K:=o.trans (m.mono O0);have m0:g.cell? (aW k 0)=some (vS (U3 A)):=by rw[j.cell J4];simp[go_sem]
    have m1:g.cell? (aW k 1)=some (vS (U3 B)):=by rw[j.cell J4];simp[go_sem]
    have m2:g.cell? (aW k 2)=some (vS (U3 t)):=by rw[j.cell J4];simp[go_sem]
    obtain⟨⟨c,b,a⟩,u,s,r⟩:=rz3 m;go_wp2;have F:=Vs g w.heap.size 0 (vS (U3 A)) (vS (U3 B)) (vS (U3 t)) _ _ _ c b a;simp only[Y8]at F;refine P7 (v:=.tuple #[.agg #[vS (U3 A),vS (U3 B),vS (U3 t)],.bool true]) (by simp[results,results280,go_sem,F.1,F.2.1,F.2.2]) rfl ⟨f,((K.setCell J4 _).setCell J4 _).setCell J4 _⟩
  have n:Ie l 2=[Y1 l,Y2 l]:=by rw[Xl 1 hm,Ii _ C]
  have f:=z (λy H e=>C (gy H e).1.2);rw[n];simp only[f_,Fb];go_wp2;refine P7 (v:=.tuple #[.agg #[vE,vE,vE],.bool false]) (by simp[results,results280,go_sem,c,b,a]) rfl ⟨f,((S.setCell J4 _).setCell J4 _).setCell J4 _⟩
 have n:Ie l 2=[l]:=Ii _ hm;have f:=z (λy H e=>hm (gy H e).1.1);rw[n];simp only[f_,Fb];go_wp2;refine P7 (v:=.tuple #[.agg #[vE,vE,vE],.bool false]) (by simp[results,results280,go_sem,c,b,a]) rfl ⟨f,((S.setCell J4 _).setCell J4 _).setCell J4 _⟩
theorem Ux(n:Int)(h0:0<=n)(h1:n<=1000):(dec n).length<=4:=by
 by_cases a:n<10
 ·rw[dec_lt n a];simp
 rw[Sl n O0,Q9];by_cases b:n / 10<10
 ·rw[dec_lt _ b];simp
 rw[Sl (n / 10) O0,Q9];by_cases c:n / 10 / 10<10
 ·rw[dec_lt _ c];simp
 rw[Sl (n / 10 / 10) O0,Q9];have d:n / 10 / 10 / 10<10:=O0;rw[dec_lt _ d];simp
theorem nX(n:Int)(h1:n<10):(dec n).length=1:=by rw[dec_lt n h1];rfl
theorem Rk(h:Y5 l=true):1<=l.length/\l.length<=20:=by
 unfold Y5 at h;rw[Fa,Pe]at h;exact h.1
theorem JF(h:vr c l=true):l.length<=300:=by
 rcases Z7 300 l.length with h1|h1
 ·rw[rF h1]at h;cases h
 exact h1
theorem lu(l:List UInt8):(Z5 l).length<=3*l.length+2:=by
 have:=Dv l;unfold Z5;simp only[f_,Q9,Fb];omega
theorem UY(h:Ri x):x.nm.data.toList.length<=20/\x.tx.data.toList.length<=300:=by
 have a:=Rk h.1;refine⟨a.2,?_⟩;rcases h.2 with⟨_,⟨_,h⟩|⟨_,h⟩⟩|⟨_,h⟩
 ·rw[h];exact Y4 _
 ·rw[h];omega
 exact JF h
theorem kF{t:BY}(h0:0<=c)(h1:c<=7)(ht:t.data.toList.length<=300):(Ec c t).length<=904:=by
 have a:=nX c O0;have b:=lu t.data.toList;unfold Ec;simp only[Q9,f_,Fb];omega
theorem FV(h:Ri x):(iq x).length<=930:=by
 obtain⟨a,b⟩:=UY h;have hc:=Aj h;have r:=kF hc.1 hc.2 b;have w4:(Wy x.has).data.toList.length=4:=by cases x.has<;>rfl
 unfold iq;simp only[Q9,f_,Fb];omega
theorem aK(h:Ig ls):∀k,k<=ls.length->(N_ (ls.take k)).length<=k*930:=by
 intro k
 induction k with
 | zero=>intro _;simp[N_]
 | succ k ih=>
  intro hk;rw[nC ls k O0,Q9];have:=FV (h.2 k O0);have:=ih O0;omega
theorem Iy(h:Ig ls):(N_ ls).length<=13950:=by
 have:=aK h ls.length A8;rw[p_ A8]at this;have:=h.1;omega
theorem EF{x:M3}(h:ig x=true):x.nm.data.toList.length<=20/\x.tl.data.toList.length<=20/\x.ar.data.toList.length<=300:=by
 unfold ig at h;simp only[Fa,Pe]at h;have e:x.ar.data.toList.length=x.ar.size:=J4;exact⟨(Rk h.1.1).2,(Rk h.1.2).2,O0⟩
end Go.Proofs.YtdgneicbmalnpaaGreatDoor
namespace Go.Proofs.YtdgneicbmalnpaaGreatDoor.T
open Proofs.Tryz Go.RowKit
variable{w w':World}{b base n:Nat}{v:Value}{fs:List F2}
theorem c37(a b:OA)(cap d:Nat)(is:List F2)(w:World)(hl:is.length<=1048576)(g:P6 w a is)(f:P6 w b is):
 Calls prog 37 #[.agg #[Sa a is.length cap],.agg #[Sa b is.length d]] w λe w'=>e=Sf (.bool true)/\Bw w w':=by
 have j:=U0 g;have i:=U0 f;clear g f;have c:Bw w ((w.alloc (Sg #[vL a is.length cap] 40)).alloc (Sg #[vL b is.length d] 40)):=U6.alloc J4 _
 go_in
 go_wp2_with fail
 refine(c85 a b cap d is _ hl (J5 j.o c) (J5 i.o c)).mono ?_;rintro e w1⟨rfl,h⟩;go_wp2;go_ret;exact⟨rfl,E5 c h⟩
def Rq(w:World)(b n:Nat):Prop:=b<w.heap.size/\(∀j,j<n*2->∃v,w.cell? ⟨b,j,none⟩=some v)/\∀j,w.frozen? ⟨b,j,none⟩=false
theorem Rq.below(h:Rq w b n)(a:Bw w w'):Rq w' b n:=
 ⟨P9 h.1 a.size,λj c=>by rw[a.cell (by exact h.1)];exact h.2.1 j c,λj=>by rw[a.frozen (by exact h.1)];exact h.2.2 j⟩
theorem Rq.set{j:Nat}(h:Rq w b n)(hj:j<n*2):Rq (w.setCell ⟨b,j,none⟩ v) b n:=by
 refine⟨by simpa using h.1,λi a=>?_,λi=>by have:=h.2.2 i;simpa using this⟩;by_cases e:i=j
 ·subst e;obtain⟨x,hx⟩:=h.2.1 i a;exact⟨v,Jg _ _ _ hx⟩
 rw[Nb _ _ _ _ (Le (Xn e))];exact h.2.1 i a
def J3(fs:List F2):List Value:=fs.flatMap λx=>[Sb x.nm,Sb x.tx]
theorem Q8(fs:List F2):(J3 fs).length=fs.length*2:=by
 induction fs with
 | nil=>rfl
 | cons x r ih=>unfold J3 at *;simp only[List.flatMap_cons,List.length_append,List.length_cons,List.length_nil,ih];omega
theorem Ae(fs gs:List F2):J3 (fs++gs)=J3 fs++J3 gs:=by simp[J3]
theorem Ce(fs:List F2)(i:Nat)(h:i<fs.length):(J3 fs)[i*2]?=some (Sb (fs.getD i o9).nm)/\(J3 fs)[i*2+1]?=some (Sb (fs.getD i o9).tx):=by
 induction fs generalizing i with
 | nil=>simp at h
 | cons x r ih=>
  cases i with
  | zero=>exact⟨rfl,rfl⟩
  | succ i=>
   have:=ih i (by simpa using h);have e:∀j,(J3 (x::r))[(i+1)*2+j]?=(J3 r)[i*2+j]?:=λj=>by
    show([Sb x.nm,vS x.tx]++J3 r)[(i+1)*2+j]?=_;rw[Yf L8]
    congr 1
    simp;omega
   have e0:=e 0;simp only[Zo]at e0;rw[e0,e 1];exact this
theorem Be:∀u∈J3 fs,u.oneCell'=true:=by
 intro u a;unfold J3 at a;obtain⟨x,_,hx⟩:=Ox.1 a;simp at hx;rcases hx with rfl|rfl<;>rfl
def Um(w:World)(base:Nat)(v:Value)(fs:List F2):Prop:=w.ownsRow base 169 2 v fs.length (J3 fs)
theorem Um.form(h:Um w base v fs):∃a cap,v=Sa a fs.length cap/\P6 w a fs:=by
 have b:=h;rcases h.2 with⟨hv,h0⟩|⟨g,cap,cur,hv,hg,d,_⟩
 ·exact⟨none,0,by rw[hv,h0],.inl (Xb.1 h0)⟩
 refine⟨some (aA g 0),cap,hv,?_⟩;subst hv;refine .inr ⟨g,0,rfl,xg d,λi c=>?_⟩;obtain⟨e0,e1⟩:=Ce fs i c;rw[Y8,b.cellAt _ O0,b.cellAt _ O0];exact⟨e0,e1⟩
theorem Um.below(h:Um w base v fs)(a:Bw w w'):Um w' base v fs:=ownsRow_below h a
theorem Qy{off:Nat}(h:∀i,i<fs.length->w.cell? ⟨b,off+i*2,none⟩=some (Sb (fs.getD i o9).nm)/\w.cell? ⟨b,off+i*2+1,none⟩=some (Sb (fs.getD i o9).tx))(j:Nat)(u:Value)(a:(J3 fs)[j]?=some u):w.cell? ((⟨b,off,none⟩:Addr).add j)=some u:=by
 have hl:j<fs.length*2:=by rw[<- Q8];exact(ah.1 a).1
 have e:(aA b off).add j=(aA b (off+j)):=by unfold Addr.add;split<;>simp_all
 rw[e];obtain⟨e0,e1⟩:=Ce fs (j / 2) O0;obtain⟨h0,h1⟩:=h (j / 2) O0;rcases tJ j with hm|hm
 ·have c:j / 2*2=j:=O0;rw[c]at e0 h0;rw[e0]at a;rw[h0];exact a
 have c:j / 2*2+1=j:=O0;rw[c]at e1;rw[Qw,c]at h1;rw[e1]at a;rw[h1];exact a
theorem a2O(a:OA)(cap:Nat)(fs:List F2)(w:World)(hl:fs.length<=1000)(i:P6 w a fs):
 Calls prog 244 #[Sa a fs.length cap] w λe w'=>∃v',e=Sf v'/\Um w' w.heap.size v' fs/\Bw w w':=by
 have q27:∀(w:World)(a:OA)(n c f m:Nat),(binOp .eql 38 (vL a n c) (vL none f m)).run prog w=.ok (.bool a.isNone) w:=λw a n c f m=>Lib.run_eql_slice_nil w _ _ a n c f m underlying38
 cases a with
 | none=>
  obtain rfl:fs=[]:=by
   rcases i with h|⟨b,off,h,_⟩
   ·exact h
   cases h
  go_in
  go_wp2;go_ret;exact⟨_,rfl,⟨rfl,.inl ⟨rfl,rfl⟩⟩,O4 _ _⟩
 | some ad=>
  obtain⟨W,l⟩:∃W:World,W=w.alloc (Sg #[] 169):=⟨_,rfl⟩;have d:Bw w W:=by rw[l];exact U6
  have p:Hid (W.ownsRow w.heap.size 169 2 (vL (some (aW w 0)) 0 0) 0 []):=by show World.ownsRow _ _ _ _ _ _ _;rw[l];exact oK w #[] 0 A8 (Y4 _) rfl
  have r:Hid (Src W (vL (some ad) fs.length cap) 2 fs.length (J3 fs)):=by
   refine .inr ⟨ad,cap,rfl,Q8 fs,λj u o=>?_⟩;rcases i with rfl|⟨b,off,h,q,hc⟩
   ·simp[J3]at o
   injection h with h;subst h;have h:=Qy hc j u o;rw[qo]at h ⊢;exact(d.cell q).trans h
  clear i
  go_in
  go_wp2_with(at_builtin;rw[<- l];refine Lc rfl _ _ 38 rfl w.heap.size 169 2 underlying38 (Jc Y0) U5 (vL (some (aW w 0)) 0 0) 0 [] rfl p.o _ fs.length (J3 fs) rfl r.o Be O0 d.size ?_;intro v' w1 O g _;rw[Y8,Y9]at O;have s:=U0 O;have t:=U0 ((d.grown g d.size (λk hk=>(p.o.lt k hk).1)));clear O g)
  go_ret;exact⟨_,rfl,s.o,t.o⟩
