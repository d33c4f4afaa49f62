import Derived.Test.YtkccjgajimjjdaaGreatDooreEM
set_option maxRecDepth 100000
set_option linter.unusedVariables false
set_option maxHeartbeats 8000000
set_option linter.unusedSimpArgs false
namespace Go.Proofs.YtkccjgajimjjdaaGreatDoor
open Proofs.Tryz Go.RowKit
variable{W W' u w:World}{B base k:Nat}{rs:List R3}{ts:LB}{rv tv:Value}{F l:List UInt8}{c:Int}{t:BY}{a:List (List UInt8)}{xs:List L4}{x:L4}
theorem yX(v:Value)(w:World):(Instr.typeAssert (.iface 140 v) 192 140 true).run prog w=.ok (.tuple #[v,.bool true]) w:=Y1
theorem JX(v:Value)(w:World):(Instr.typeAssert (.iface 247 v) 192 140 true).run prog w=.ok (.tuple #[.int .i64 0,.bool false]) w:=Y1
theorem DY(v:Value)(w:World):(Instr.typeAssert (.iface 247 v) 192 247 true).run prog w=.ok (.tuple #[v,.bool true]) w:=Y1
theorem sV(v:Value)(w:World):(Instr.typeAssert (.iface 248 v) 192 140 true).run prog w=.ok (.tuple #[.int .i64 0,.bool false]) w:=Y1
theorem kW(v:Value)(w:World):(Instr.typeAssert (.iface 248 v) 192 247 true).run prog w=.ok (.tuple #[.agg #[.string ⟨#[]⟩,.string ⟨#[]⟩],.bool false]) w:=Y1
theorem jW(v:Value)(w:World):(Instr.typeAssert (.iface 248 v) 192 248 true).run prog w=.ok (.tuple #[v,.bool true]) w:=Y1
theorem DX(v:Value)(w:World):(Instr.typeAssert (.iface 250 v) 192 140 true).run prog w=.ok (.tuple #[.int .i64 0,.bool false]) w:=Y1
theorem EX(v:Value)(w:World):(Instr.typeAssert (.iface 250 v) 192 247 true).run prog w=.ok (.tuple #[.agg #[.string ⟨#[]⟩,.string ⟨#[]⟩],.bool false]) w:=Y1
theorem OY(v:Value)(w:World):(Instr.typeAssert (.iface 250 v) 192 248 true).run prog w=.ok (.tuple #[.string ⟨#[]⟩,.bool false]) w:=Y1
theorem zW(v:Value)(w:World):(Instr.typeAssert (.iface 250 v) 192 250 true).run prog w=.ok (.tuple #[v,.bool true]) w:=Y1
theorem qY(v:Value)(w:World):(Instr.typeAssert (.iface 253 v) 192 140 true).run prog w=.ok (.tuple #[.int .i64 0,.bool false]) w:=Y1
theorem nV(v:Value)(w:World):(Instr.typeAssert (.iface 253 v) 192 247 true).run prog w=.ok (.tuple #[.agg #[.string ⟨#[]⟩,.string ⟨#[]⟩],.bool false]) w:=Y1
theorem FX(v:Value)(w:World):(Instr.typeAssert (.iface 253 v) 192 248 true).run prog w=.ok (.tuple #[.string ⟨#[]⟩,.bool false]) w:=Y1
theorem AX(v:Value)(w:World):(Instr.typeAssert (.iface 253 v) 192 250 true).run prog w=.ok (.tuple #[.agg #[.string ⟨#[]⟩,.string ⟨#[]⟩,.string ⟨#[]⟩,.slice none 0 0,.int .i64 0,.string ⟨#[]⟩],.bool false]) w:=Y1
theorem KX(v:Value)(w:World):(Instr.typeAssert (.iface 253 v) 192 253 true).run prog w=.ok (.tuple #[v,.bool true]) w:=Y1
def zE:List Value:=[.int .i64 0,.int .i64 0,.string ⟨#[]⟩,.string ⟨#[]⟩,.string ⟨#[]⟩,.string ⟨#[]⟩,.string ⟨#[]⟩,.slice none 0 0,.int .i64 0,.string ⟨#[]⟩]
open Go.RowKit Go.Maps
theorem flat3{α:Type}(f:α->List Value)(hf:∀a,(f a).length=3):∀(l:List α)(k:Nat)(b:k<l.length)(j:Nat),j<3->(l.flatMap f)[k*3+j]?=(f (l[k]))[j]?
 | [],k,b,_,_=>absurd b (y9 _)
 | x::r,0,_,j,hj=>by
  rw[Hg,G_ (by rw[hf];omega)];simp
 | x::r,k+1,b,j,hj=>by
  have c:=flat3 f hf r k (by simpa using b) j hj;rw[Hg,Ue (by rw[hf];omega),hf];have e:(k+1)*3+j-3=k*3+j:=O0;rw[e,c];simp
theorem oZ(rs:List R3)(vs:List Value)(k:Nat)(a:k<rs.length):(rC rs vs)[k*3]?=some (.string (rs.getD k h_).key)/\(rC rs vs)[k*3+1]?=some (vs.getD k undef)/\(rC rs vs)[k*3+2]?=some (.string (rs.getD k h_).out):=by
 have h:=flat3 (λi=>[Value.string (rs.getD i h_).key,vs.getD i undef,Value.string (rs.getD i h_).out]) (λ_=>rfl) (List.range rs.length) k (by simpa using a);have h0:=h 0 O0;have h1:=h 1 O0;have h2:=h 2 O0;simp only[List.getElem_range]at h0 h1 h2;exact⟨h0,h1,h2⟩
theorem aH{a2:OA}{c2:Nat}{vs:List Value}(h:vg W base (.slice a2 rs.length c2) rs vs):ug W a2 rs:=by
 have b:=h.row;rcases h.row.2 with⟨hv,h0⟩|⟨g,cap,cur,hv,hg,f,_⟩
 ·exact .inl (Qb.1 h0)
 simp only[Xt]at hv;obtain⟨rfl,_,rfl⟩:=hv;refine .inr ⟨g,0,rfl,(Eb.1 f).1,λk d=>?_⟩;obtain⟨j,a1,a2⟩:=oZ rs vs k d;obtain⟨a,c,e,i⟩:=h.gl k d;refine⟨a,c,?_,?_,?_,WL i⟩
 ·rw[o9,b.cellAt (k*3) O0];exact j
 ·rw[o9,b.cellAt (k*3+1) O0,a1,e]
 rw[o9,b.cellAt (k*3+2) O0];exact a2
theorem Jt(h:Z_ W base ts rs tv rv)(a:∀q t,Ah W q t->t=9\/t=162\/t=213->W'.heap[q]?=W.heap[q]?):Z_ W' base ts rs tv rv:=by
 obtain⟨h1,vs,h2⟩:=h;exact⟨I5 h1 (λq b=>a q 9 (N7 h1 b) (.inl rfl)),vs,h2.keep (λq t hT ht _=>a q t hT (.inr ht))⟩
theorem Rx(h:Z_ W base ts rs tv rv)(a:Bw W W'):Z_ W' base ts rs tv rv:=
 Jt h (λq t hT _=>a.block q (Je hT))
theorem Be{base':Nat}(h:Z_ W base ts rs tv rv)(a:base'<=base):Z_ W base' ts rs tv rv:=by
 obtain⟨h1,vs,h⟩:=h;exact⟨P7 h1 a,vs,h.len,P7 h.row a,λi b=>by
  obtain⟨d,c3,e,c⟩:=h.gl i b;exact⟨d,c3,e,P7 c a⟩,h.apart⟩
theorem qL:Dj.le 1048576:=⟨J4 _,J4 _,⟨J4 _,J4 _,J4 _⟩,⟨J4 _,λ_=>⟨J4 _,J4 _⟩⟩,J4 _⟩
theorem a2C(x:z_)(s:x.kd=4)(b:OA)(i:Nat)(w:World)(hle:x.le 1048576)(z:S9 w b x.ls):
 Calls prog 22 #[.agg #[.int .i64 4,.int .i64 x.ep,.string x.fn,.string x.ft,.string x.km.nm,.string x.km.tl,.string x.km.ar,.slice b x.ls.length i,.int .i64 x.cd,.string x.tx]] w λe w'=>kC (N9 x) (m_ x) e/\Bw w w':=by
 obtain⟨f1,f2,⟨m1,m2,m3⟩,⟨hl,y⟩,f3⟩:=hle;have hB0:∀o,Bw w (w.alloc o):=λo=>Y6
 go_in
 go_wp2_with fail
 refine(c72 4 x.ep x.cd 0 0 x.cd x.fn x.ft x.km.nm x.km.tl x.km.ar x.tx ⟨#[]⟩ ⟨#[]⟩ x.km.nm x.km.tl x.km.ar x.tx b b x.ls.length x.ls.length i i _ hl hl).mono ?_;rintro e F⟨⟨r,rfl,hr⟩,P⟩;have R:=U0 (hr.trans (a4Q s));have q:Below (w.heap.size+1) (w.alloc (.cells #[vI 4,vI x.ep,vS x.fn,vS x.ft,vS x.km.nm,vS x.km.tl,vS x.km.ar,vL b x.ls.length i,vI x.cd,vS x.tx] 74)) F:=YD P;have t:=(hB0 _).trans (q.mono O0);have m:=(a_ w [vI 4,vI x.ep,vS x.fn,vS x.ft,vS x.km.nm,vS x.km.tl,vS x.km.ar,vL b x.ls.length i,vI x.cd,vS x.tx] 74).below q O0;have d:w.heap.size<F.heap.size:=by have h:=q.size;simp at h;omega
 clear hr P q;have n4:=m 4 _ rfl;have n5:=m 5 _ rfl;have n6:=m 6 _ rfl;have n7:=m 7 _ rfl;have I:=m 8 _ rfl;have H:=m 9 _ rfl;cases r
 ·have B:Hid (kC (N9 x) (m_ x) (.returned vE)):=Jl (λh=>absurd (R.out.2 ((a0b s).1 h).1) Ik);go_wp2;go_ret;exact⟨B.out,t⟩
 have U:=U0 (R.out.1 rfl)
 go_wp2_with fail
 refine(c76 x.km x.ls x.cd x.tx b i _ ⟨m1,m2,m3⟩ hl y f3 (U7 z t)).mono ?_;rintro e w1⟨⟨W,rfl,J⟩,a⟩;have Q:=U0 J;have A:=J5 t a;have k4:=(a.cell (by exact d)).trans n4;have k5:=(a.cell (by exact d)).trans n5;have k6:=(a.cell (by exact d)).trans n6;have k7:=(a.cell (by exact d)).trans n7;have k8:=(a.cell (by exact d)).trans I;have k9:=(a.cell (by exact d)).trans H;have l:=U9 d a.size;have HAT:=U0 z;have HS:=U0 y;clear J a n4 n5 n6 n7 I H d m t z y;cases W
 ·have B:Hid (kC (N9 x) (m_ x) (.returned vE)):=Jl (λh=>absurd (Q.out.2 ((a0b s).1 h).2) Ik);go_wp2;go_ret;exact⟨B.out,A⟩
 have p:=U0 (Q.out.1 rfl);have HOK:=U0 ((a0b s).2 ⟨U.out,p.out⟩);obtain⟨E,D,C⟩:=mF p.out.1;have y0:x.km.nm.size<=20:=by simpa using E
 have y1:x.km.tl.size<=20:=by simpa using D
 have y2:x.km.ar.size<=300:=by simpa using C
 have y3:=og x.km.ar;have y4:(I4 (P_ x.ls)).size<=13950:=by rw[P5];exact Xw p.out.2.1
 have v:=U0 (xh p.out.2.2);have y5:(I4 (Dc x.cd x.tx)).size<=904:=by rw[P5];exact TF v.out.1 v.out.2 (NF p.out.2.2)
 have HE:Hid ((⟨#[114,97,110,32]⟩:BY)++x.km.nm++⟨#[32]⟩++x.km.tl++⟨#[32]⟩++I4 (J6 x.km.ar.data.toList)++⟨#[10]⟩++I4 (P_ x.ls)++⟨#[103,97,118,101,32]⟩++I4 (Dc x.cd x.tx)++⟨#[10]⟩=I4 (m_ x)):=by show _=_;rw[a2o,<- U.out]
 have g0:¬9223372036854775807<4+x.km.nm.size:=O0;have g1':¬9223372036854775807<=4+x.km.nm.size:=O0;have g1:¬9223372036854775807<4+x.km.nm.size+1:=O0;have g2:¬9223372036854775807<4+x.km.nm.size+1+x.km.tl.size:=O0;have g3':¬9223372036854775807<=4+x.km.nm.size+1+x.km.tl.size:=O0;have g3:¬9223372036854775807<4+x.km.nm.size+1+x.km.tl.size+1:=O0;have g4:¬9223372036854775807<4+x.km.nm.size+1+x.km.tl.size+1+(I4 (J6 x.km.ar.data.toList)).size:=O0;have g5':¬9223372036854775807<=4+x.km.nm.size+1+x.km.tl.size+1+(I4 (J6 x.km.ar.data.toList)).size:=O0;have g5:¬9223372036854775807<4+x.km.nm.size+1+x.km.tl.size+1+(I4 (J6 x.km.ar.data.toList)).size+1:=O0;have g6:¬9223372036854775807<4+x.km.nm.size+1+x.km.tl.size+1+(I4 (J6 x.km.ar.data.toList)).size+1+(I4 (P_ x.ls)).size:=O0;have g7:¬9223372036854775807<4+x.km.nm.size+1+x.km.tl.size+1+(I4 (J6 x.km.ar.data.toList)).size+1+(I4 (P_ x.ls)).size+5:=O0;have g8:¬9223372036854775807<4+x.km.nm.size+1+x.km.tl.size+1+(I4 (J6 x.km.ar.data.toList)).size+1+(I4 (P_ x.ls)).size+5+(I4 (Dc x.cd x.tx)).size:=O0;have g9':¬9223372036854775807<=4+x.km.nm.size+1+x.km.tl.size+1+(I4 (J6 x.km.ar.data.toList)).size+1+(I4 (P_ x.ls)).size+5+(I4 (Dc x.cd x.tx)).size:=O0;have g9:¬9223372036854775807<4+x.km.nm.size+1+x.km.tl.size+1+(I4 (J6 x.km.ar.data.toList)).size+1+(I4 (P_ x.ls)).size+5+(I4 (Dc x.cd x.tx)).size+1:=O0;have h9:¬(16000:Int)<4+(x.km.nm.size:Int)+1+(x.km.tl.size:Int)+1+((I4 (J6 x.km.ar.data.toList)).size:Int)+1+((I4 (P_ x.ls)).size:Int)+5+((I4 (Dc x.cd x.tx)).size:Int)+1:=O0;clear E D C
 go_wp2_with fail
 refine wp_region_held_drew (S:=(λu=>u.cell? (aW w 4)=some (vS x.km.nm)/\u.cell? (aW w 5)=some (vS x.km.tl)/\u.cell? (aW w 6)=some (vS x.km.ar)/\u.cell? (aW w 7)=some (vL b x.ls.length i)/\u.cell? (aW w 8)=some (vI x.cd)/\u.cell? (aW w 9)=some (vS x.tx))) Y1 ?_ λhHeld=>?_
 · ((try dsimp only);go_keep)
 refine p_ 0 ?_;refine p_ 1 ?_;refine p_ 2 ?_;refine p_ 3 ?_;refine p_ 4 ?_;refine p_ 5 ?_;refine p_ 6 ?_;refine p_ 7 ?_;refine p_ 8 ?_;refine p_ 9 ?_;refine p_ 10 ?_;refine p_ 11 ?_;refine p_ 12 ?_;refine p_ 16 ?_;refine p_ 17 ?_;refine p_ 21 ?_;refine p_ 22 ?_;refine rq 13 λK g=>?_;go_simp;refine(IV x.km.ar _ O0).mono ?_;rintro e V⟨rfl,O⟩;have c:Hid (Bw w1 V):=((G5 _ _).drew).trans O;have p4:=(c.out.cell (by exact l)).trans k4;have p5:=(c.out.cell (by exact l)).trans k5;have p6:=(c.out.cell (by exact l)).trans k6;have p7:=(c.out.cell (by exact l)).trans k7;have p8:=(c.out.cell (by exact l)).trans k8;have p9:=(c.out.cell (by exact l)).trans k9;have f:=U9 l c.out.size;clear O
 go_wp2_with fail
 clear hHeld;refine xU g λhHeld=>?_;clear g K
 iterate 2 refine sq ?_
 refine rq 18 λK g=>?_;go_simp;refine(c77 b i x.ls _ p.out.2.1 HS (U7 HAT (J5 A c))).mono ?_;rintro e w3⟨rfl,N⟩;have j:=U0 N;have q4:=(j.out.cell (by exact f)).trans p4;have q5:=(j.out.cell (by exact f)).trans p5;have q6:=(j.out.cell (by exact f)).trans p6;have Z:=(j.out.cell (by exact f)).trans p7;have Y:=(j.out.cell (by exact f)).trans p8;have X:=(j.out.cell (by exact f)).trans p9;have k:=U9 f j.out.size;clear N
 go_wp2_with fail
 clear hHeld;refine xU g λhHeld=>?_;clear g K
 iterate 2 refine sq ?_
 refine rq 23 λK g=>?_;go_simp;refine(c78 x.cd x.tx _ v.out.1 (by have:=v.out.2;omega) O0).mono ?_;rintro e w4⟨rfl,L⟩;have n:=U0 L;have r4:=(n.out.cell (by exact k)).trans q4;have r5:=(n.out.cell (by exact k)).trans q5;have r6:=(n.out.cell (by exact k)).trans q6;have r7:=(n.out.cell (by exact k)).trans Z;have r8:=(n.out.cell (by exact k)).trans Y;have r9:=(n.out.cell (by exact k)).trans X;clear L
 go_wp2_with fail
 clear hHeld;refine xU g λhHeld=>?_;clear g K
 iterate 3 refine sq ?_
 refine wdn ?_;have hB2:=((J5 A c).trans (j.out.mono (Vt f))).trans (n.out.mono (Vt k));clear hHeld;go_wp2;go_ret;exact⟨⟨_,rfl,.inl ⟨HOK,HE⟩⟩,hB2⟩
def nO(l:List UInt8)(x:L4)(ok:Bool):Prop:=(∀y,ji y->l=Uc y->ok=true/\x=y)/\(jC l=false->ok=false)
def a0o(l:List UInt8)(e:Ending):Prop:=∃(x:L4)(ok:Bool),e=.returned (.tuple #[x.v,.bool ok])/\nO l x ok/\x.le 1048576
theorem XZ(h:jC l=false)(x:L4):nO l x false:=by
 refine⟨λy b e=>?_,λ_=>rfl⟩;obtain⟨a,_⟩:=Xn b.1;rw[<- e]at a;rw[(xu a).1]at h;cases h
theorem UX(h:jC l=true)(hr:zL (J3 (J3 l)) c t):nO l ⟨Xj l,I4 (Y2 (J3 l)),c,t⟩ true:=by
 constructor
 ·intro y f e;obtain⟨a,b,d⟩:=Xn f.1;rw[<- e]at a b d;obtain⟨h1,h2⟩:=hr _ _ (Cj f).1 (Cj f).2 d;refine⟨rfl,?_⟩;rw[(xu a).2,b,h1,h2];rfl
 intro e;rw[h]at e;cases e
theorem a2B(l:List UInt8)(w:World)(hs:l.length<=16000):
 Calls prog 127 #[.string (I4 l)] w λe w'=>a0o l e/\Bw w w':=by
 have V:Bw w (w.alloc (.cells #[.bool false,vE,vO,vE] 138)):=Y6;have hr:=Y8 l;have hr2:=Y8 (J3 l);have h1:=has_eq l;have h2:=MR l;have U:jC l=(Xj l||decide (Y2 l=[97,115,107])):=rfl
 go_in
 go_wp2_with fail
 refine(Ku l _ O0 2 O0 O0).mono ?_;rintro e w1⟨⟨g,cp,rfl,P,H⟩,Q⟩;have p:w1.cell? (aA g 0)=some (vS (I4 (Y2 l))):=H.2 0 (by simp[Q_]);have o:w1.cell? (aA g 1)=some (vS (I4 (Y2 (J3 l)))):=H.2 1 (by simp[Q_]);have n:=H.1;have F:Below (w.heap.size+1) (w.alloc (.cells #[.bool false,vE,vO,vE] 138)) w1:=YD Q;have hg2:w.heap.size<g:=by have h:=P;simp at h;omega
 have E:=V.trans (F.mono O0);obtain⟨C,D⟩:=yI (vs:=[.bool false,vE,vO,vE]) F;have L:jC l=false->Hid (a0o l (.returned (.tuple #[.agg #[.bool false,vE,vO,vE],.bool false]))):=λh=>⟨M_,false,rfl,XZ h _,⟨J4 _,J4 _⟩⟩;have J:jC l=true->∀c t,zL (J3 (J3 l)) c t->t.size<=1048576->Hid (a0o l (.returned (.tuple #[.agg #[.bool (Xj l),vS (I4 (Y2 (J3 l))),vI c,vS t],.bool true]))):=λh c t O ht=>⟨⟨Xj l,I4 (Y2 (J3 l)),c,t⟩,true,rfl,UX h O,⟨by show(I4 (Y2 (J3 l))).size<=1048576;rw[P5];omega,ht⟩⟩;have h50:=a1O (J3 (J3 l));have N:I4 (l_ l 2)=I4 (J3 (J3 l)):=rfl;rw[N];have I:(J3 (J3 l)).length<=16000:=O0;generalize J3 (J3 l)=R at*;generalize I4 (Y2 (J3 l))=B at*;generalize decide (Y2 l=[97,115,107])=a at*;generalize Xj l=h at*;generalize jC l=i at*;generalize I4 (Y2 l)=s at*;have m:w.heap.size<w1.heap.size:=by have h:=F.size;simp at h;omega
 subst U;cases h
 ·cases a
  ·have j:=L rfl
   go_wp2_with(refine G8 rfl 138 (.tmp 2) (.tmp 21) rfl w.heap.size 0 rfl [.bool false,vE,vO,vE] rfl (r_ C _ rfl) D (by simp[Value.oneCell']) Y1 rfl ?_)
   have k:=U6.fill (B:=w.heap.size) [.bool false,vE,vO,vE] [] [.bool false,vE,vO,vE] [] 0 C rfl rfl;refine Q7 (v:=.tuple #[.agg #[.bool false,vE,vO,vE],.bool false]) (by exact Za results127 _ _ w.heap.size _ _ _ rfl rfl k underlying138 rfl Y1) rfl ⟨j,by exact Ua X7 _ 0 E⟩
  clear L
  go_wp2_with fail
  refine wp_region_held_drew (S:=(λu=>u.cell? (aA g 0)=some (vS s)/\u.cell? (aA g 1)=some (vS B))) Y1 ?_ λhHeld=>?_
  ·exact⟨p,o⟩
  iterate 8 refine sq ?_
  refine rq 8 λK d=>?_;go_simp;refine(h50 _ I).mono ?_;rintro e q⟨⟨c,t,rfl,x,r⟩,y⟩;have b:Bw w1 q:=((G5 _ _).drew).trans y;have f:=C.below b m;have z:=D.below b m;have A:=J5 E b;have j:=J (by first|rfl|trivial) c t x r;have e0:=(b.cell (by exact n)).trans p;have e1:=(b.cell (by exact n)).trans o
  go_wp2_with fail
  refine A8 d ?_ λhHeld=>?_
  ·exact⟨e0,e1⟩
  refine sq ?_;refine rq 10 λK d=>?_;refine jd rfl 138 (.tmp 2) (.tmp 31) rfl w.heap.size 0 rfl [.bool false,vS B,vI c,vS t] rfl (r_ f _ rfl) z (by simp[Value.oneCell']) Y1 rfl ?_;refine A8 d ?_ λhHeld=>?_
  ·exact⟨(Oa _ 0 (aA g 0) (by show g≠w.heap.size;omega)).trans e0,(Oa _ 0 (aA g 1) (by show g≠w.heap.size;omega)).trans e1⟩
  refine sq ?_;refine wdn ?_;go_wp2;have k:=U6.fill (B:=w.heap.size) [.bool false,vS B,vI c,vS t] [] [.bool false,vE,vO,vE] [] 0 f rfl rfl;refine Q7 (v:=.tuple #[.agg #[.bool false,vS B,vI c,vS t],.bool true]) (by exact Za results127 _ _ w.heap.size _ _ _ rfl rfl k underlying138 rfl Y1) rfl ⟨j,by exact Ua X7 _ 0 A⟩
 clear L;cases a
 ·go_wp2_with fail
  refine wp_region_held_drew (S:=(λu=>u.cell? (aA g 0)=some (vS s)/\u.cell? (aA g 1)=some (vS B))) Y1 ?_ λhHeld=>?_
  ·exact⟨p,o⟩
  iterate 8 refine sq ?_
  refine rq 8 λK d=>?_;go_simp;refine(h50 _ I).mono ?_;rintro e q⟨⟨c,t,rfl,x,r⟩,y⟩;have b:Bw w1 q:=((G5 _ _).drew).trans y;have f:=C.below b m;have z:=D.below b m;have A:=J5 E b;have j:=J (by first|rfl|trivial) c t x r;have e0:=(b.cell (by exact n)).trans p;have e1:=(b.cell (by exact n)).trans o
  go_wp2_with fail
  refine A8 d ?_ λhHeld=>?_
  ·exact⟨e0,e1⟩
  refine sq ?_;refine rq 10 λK d=>?_;refine jd rfl 138 (.tmp 2) (.tmp 31) rfl w.heap.size 0 rfl [.bool true,vS B,vI c,vS t] rfl (r_ f _ rfl) z (by simp[Value.oneCell']) Y1 rfl ?_;refine A8 d ?_ λhHeld=>?_
  ·exact⟨(Oa _ 0 (aA g 0) (by show g≠w.heap.size;omega)).trans e0,(Oa _ 0 (aA g 1) (by show g≠w.heap.size;omega)).trans e1⟩
  refine sq ?_;refine wdn ?_;go_wp2;have k:=U6.fill (B:=w.heap.size) [.bool true,vS B,vI c,vS t] [] [.bool false,vE,vO,vE] [] 0 f rfl rfl;refine Q7 (v:=.tuple #[.agg #[.bool true,vS B,vI c,vS t],.bool true]) (by exact Za results127 _ _ w.heap.size _ _ _ rfl rfl k underlying138 rfl Y1) rfl ⟨j,by exact Ua X7 _ 0 A⟩
 go_wp2_with fail
 refine wp_region_held_drew (S:=(λu=>u.cell? (aA g 0)=some (vS s)/\u.cell? (aA g 1)=some (vS B))) Y1 ?_ λhHeld=>?_
 ·exact⟨p,o⟩
 iterate 8 refine sq ?_
 refine rq 8 λK d=>?_;go_simp;refine(h50 _ I).mono ?_;rintro e q⟨⟨c,t,rfl,x,r⟩,y⟩;have b:Bw w1 q:=((G5 _ _).drew).trans y;have f:=C.below b m;have z:=D.below b m;have A:=J5 E b;have j:=J (by first|rfl|trivial) c t x r;have e0:=(b.cell (by exact n)).trans p;have e1:=(b.cell (by exact n)).trans o
 go_wp2_with fail
 refine A8 d ?_ λhHeld=>?_
 ·exact⟨e0,e1⟩
 refine sq ?_;refine rq 10 λK d=>?_;refine jd rfl 138 (.tmp 2) (.tmp 31) rfl w.heap.size 0 rfl [.bool true,vS B,vI c,vS t] rfl (r_ f _ rfl) z (by simp[Value.oneCell']) Y1 rfl ?_;refine A8 d ?_ λhHeld=>?_
 ·exact⟨(Oa _ 0 (aA g 0) (by show g≠w.heap.size;omega)).trans e0,(Oa _ 0 (aA g 1) (by show g≠w.heap.size;omega)).trans e1⟩
 refine sq ?_;refine wdn ?_;go_wp2;have k:=U6.fill (B:=w.heap.size) [.bool true,vS B,vI c,vS t] [] [.bool false,vE,vO,vE] [] 0 f rfl rfl;refine Q7 (v:=.tuple #[.agg #[.bool true,vS B,vI c,vS t],.bool true]) (by exact Za results127 _ _ w.heap.size _ _ _ rfl rfl k underlying138 rfl Y1) rfl ⟨j,by exact Ua X7 _ 0 A⟩
theorem c22(x:z_)(a:OA)(b:Nat)(w:World)(d:x.le 1048576)(f:S9 w a x.ls):
 Calls prog 22 #[.agg (x.c a b).toArray] w λe w'=>kC (N9 x) (m_ x) e/\Bw w w':=by
 show Calls prog 22 #[.agg #[.int .i64 x.kd,.int .i64 x.ep,.string x.fn,.string x.ft,.string x.km.nm,.string x.km.tl,.string x.km.ar,.slice a x.ls.length b,.int .i64 x.cd,.string x.tx]] w _;by_cases h1:x.kd=1
 ·have:=a1x x h1 a b w d f;rw[h1];exact this
 by_cases h2:x.kd=2
 ·have:=a1J x h2 a b w d f;rw[h2];exact this
 by_cases i:x.kd=3
 ·have:=a2D x i a b w d f;rw[i];exact this
 by_cases h:x.kd=4
 ·have:=a2C x h a b w d f;rw[h];exact this
 by_cases g:x.kd=5
 ·have:=a1F x g a b w d f;rw[g];exact this
 exact a0P x a b w h1 h2 i h g
def RES(l:List UInt8)(x:z_)(ok:Bool):Prop:=(ok=true->N9 x/\m_ x=l/\∀y,N9 y->m_ y=l->x=y)/\(ok=false->∀y,N9 y->m_ y≠l)
def Is4(l:List UInt8)(w':World)(e:Ending):Prop:=∃(x:z_)(ok:Bool)(ai:OA)(ci:Nat),e=.returned (.tuple #[.agg (x.c ai ci).toArray,.bool ok])/\RES l x ok/\(ok=false->x=Dj/\ai=none/\ci=0)/\x.le 1048576/\S9 w' ai x.ls
def uV(l:List UInt8)(x:z_):Prop:=∀y,N9 y->m_ y=l->x=y
theorem Oq{a:BY}{x:z_}(hx:uV l x)(hT:(N9 x/\a=I4 (m_ x))\/(¬N9 x/\a=⟨#[]⟩))(hl:l≠[])(he:a.data.toList=l):RES l x true:=by
 refine⟨λ_=>?_,(λh=>by cases h)⟩;rcases hT with⟨h1,h2⟩|⟨h1,h2⟩
 ·exact⟨h1,by rw[<- he,h2];rfl,hx⟩
 rw[h2]at he;exact absurd he.symm hl
theorem Jv{a:BY}{x:z_}(hx:uV l x)(hT:(N9 x/\a=I4 (m_ x))\/(¬N9 x/\a=⟨#[]⟩))(he:a.data.toList≠l):RES l Dj false:=by
 refine⟨(λh=>by cases h),λ_ y b e=>?_⟩;have:=hx y b e;subst this;rcases hT with⟨h1,h2⟩|⟨h1,h2⟩
 ·apply he;rw[h2];exact e
 exact h1 b
theorem GK(h:l=[]\/16000<l.length):RES l Dj false:=by
 refine⟨(λh=>by cases h),λ_ y a e=>?_⟩;have:=IK a;rw[e]at this;rcases h with h|h
 ·rw[h]at this;simp at this
 omega
theorem lK{a:Act}(x:z_)(b:OA)(d:Nat)(ok:Bool)(f:RES l x ok)(hz:ok=false->x=Dj/\b=none/\d=0)(hx:x.le 1048576)(g:S9 (fill u w.heap.size 0 (x.c b d)) b x.ls)(j:a.tmps.getD 2 undef=.pointer (some ⟨w.heap.size,0,none⟩))(i:a.tmps.getD 3 undef=.bool ok)(hd:a.defers=[])(hA:U6 u w.heap.size zE)(h:Bw w u):
 bodyPost prog Tryz.f70 (λe w'=>Is4 l w' e/\Bw w w') .ret a (fill u w.heap.size 0 (x.c b d)):=by
 have k:=U6.fill (B:=w.heap.size) (x.c b d) [] zE [] 0 hA rfl rfl;exact Q7 (v:=.tuple #[.agg (x.c b d).toArray,.bool ok]) (Za results70 _ _ w.heap.size _ _ _ j i k underlying74 rfl Y1) hd ⟨⟨x,ok,b,d,rfl,f,hz,hx,g⟩,Ua X7 _ 0 h⟩
theorem Xk{a:Act}(b:RES l Dj false)(f:a.tmps.getD 2 undef=.pointer (some ⟨w.heap.size,0,none⟩))(d:a.tmps.getD 3 undef=.bool false)(hd:a.defers=[])(hA:U6 u w.heap.size zE)(c:Bw w u):
 bodyPost prog Tryz.f70 (λe w'=>Is4 l w' e/\Bw w w') .ret a (fill u w.heap.size 0 zE):=
 lK Dj none 0 false b (λ_=>⟨rfl,rfl,rfl⟩) qL (.inl rfl) f d hd hA c
theorem Cm(vs:List Value){c:OA}{is:List L4}(h:S9 u c is)(e:∀g o,c=some ⟨g,o,none⟩->g≠B):S9 (fill u B 0 vs) c is:=by
 rcases h with h|⟨b,off,h1,h2,f⟩
 ·exact .inl h
 refine .inr ⟨b,off,h1,by rw[Vh];exact h2,λi d=>?_⟩;have a:=e b off h1;rw[Oa _ _ _ a,Oa _ _ _ a,Oa _ _ _ a,Oa _ _ _ a];exact f i d
theorem qB{e size n:Nat}{v:Value}{xs:List Value}(h:w.ownsRow B e size v n xs)(p:Addr)(y:Value)(hp:p.block<B):(w.setCell p y).ownsRow B e size v n xs:=by
 refine⟨h.1,?_⟩;rcases h.2 with h0|⟨g,cap,cur,hv,b,a,r⟩
 ·exact .inl h0
 refine .inr ⟨g,cap,cur,hv,b,?_,r⟩;rw[Go.Deep.blk_setCell_other w p y g O0];exact a
theorem Ib{P:Program}{ops:Array Oper}{rest:List Oper}{o:Oper}{a:Act}{Q:Exit->Act->World->Prop}(hw:Region.wanted o (yielded ops a.tmps)=true)(ty:TypeId)(x:Operand)(ho:o.op=.load ty x)
 (B:Nat) (hx:a.eval x=.pointer (some ⟨B,0,none⟩)) (cs:List Value) (d:TypeDesc) (hc:U6 w B cs)
 (b:P.underlying ty=some d) (hd:(match d with | .struct _ | .array _ _=>true|_=>false)=true) (c:(P.info? ty).map (·.size)=some cs.length)
 (h:wpList P ops Q rest (a.put o.dst (.agg cs.toArray)) w):wpList P ops Q (o::rest) a w:=by
 refine wpList_step λK e=>?_;rw[L8 hw];unfold Oper.wp execOp;simp only[ho,hx,Instr.loadAt,Instr.sureAddr,Sem.run_bind,Zp,Am,lg w B ty cs d hc b hd c];exact e _ _ h
theorem jm{y:z_}(a:N9 y)(e:m_ y=l):x9 10 l=n_ y++[[]]:=by
 rw[<- e];exact UG _ (xG a)
theorem Sl{y:z_}(a:N9 y)(e:m_ y=l):Y2 ((x9 10 l).getD 0 [])=oC y:=by
 rw[jm a e];have d:n_ y≠[]:=by unfold n_;(repeat' split)<;>simp
 obtain⟨f,b,c⟩:=List.exists_cons_of_ne_nil d;rw[c];exact(Af a c.symm).1
theorem wR(x:z_)(h1:Y2 ((x9 10 l).getD 0 [])≠Gl)(h2:Y2 ((x9 10 l).getD 0 [])≠Bd)(d:Y2 ((x9 10 l).getD 0 [])≠Oi)(c:Y2 ((x9 10 l).getD 0 [])≠Eh)(b:Y2 ((x9 10 l).getD 0 [])≠ah):uV l x:=by
 intro y a e;exfalso;have hw:=Sl a e;unfold oC at hw;split at hw
 ·exact h2 hw
 split at hw
 ·exact d hw
 split at hw
 ·exact c hw
 split at hw
 ·exact h1 hw
 exact b hw
theorem a2h(hF:(x9 10 l).getD 0 []=F)(hw:Y2 F=Bd):uV l (J9 (n29 (J3 F))):=by
 intro y a e;have h1:=Sl a e;rw[hF]at h1;obtain⟨n,hn,rfl⟩:=wu a (Wh a (.inl rfl) h1 (by rw[hw];rfl));rw[jm a e]at hF;have b:Bd++32::dec n=F:=hF;have hr:J3 F=dec n:=by rw[<- b];exact(E8 Z5).2
 rw[hr,qH O0 O0]
theorem a2N{t:List UInt8}(hF:(x9 10 l).getD 0 []=F)(hw:Y2 F=Oi)(ht:∀q,J3 (J3 F)=J6 q->t=q):uV l (Lc (I4 (Y2 (J3 F))) (I4 t)):=by
 intro y c e;have h1:=Sl c e;rw[hF]at h1;obtain⟨a,b,f,rfl⟩:=Jy c (Wh c (.inr (.inl rfl)) h1 (by rw[hw];rfl));rw[jm c e]at hF;have g:Oi++32::(a.data.toList++32::J6 b.data.toList)=F:=hF;have hr:J3 F=a.data.toList++32::J6 b.data.toList:=by rw[<- g];exact(E8 Z5).2
 obtain⟨w1,d⟩:=E8 (r:=J6 b.data.toList) (Fa f.1).1;rw[<- hr]at w1 d;rw[w1,ht _ d];rfl
theorem a1u(hF:(x9 10 l).getD 0 []=F)(hw:Y2 F=Eh):uV l (Ec (I4 (J3 F))):=by
 intro y b e;have h1:=Sl b e;rw[hF]at h1;obtain⟨a,hn,rfl⟩:=Ju b (Wh b (.inr (.inr (.inl rfl))) h1 (by rw[hw];rfl));rw[jm b e]at hF;have c:Eh++32::a.data.toList=F:=hF;have hr:J3 F=a.data.toList:=by rw[<- c];exact(E8 Z5).2
 rw[hr];rfl
theorem a3a(hF:(x9 10 l).getD 0 []=F)(hw:Y2 F=ah):uV l Va:=by
 intro y a e;have h1:=Sl a e;rw[hF]at h1;exact(IB a (Wh a (.inr (.inr (.inr (.inr rfl)))) h1 (by rw[hw];rfl))).symm
def ay(Ls:List (List UInt8))(k:Nat)(xs:List L4)(c:Int)(t:BY):Prop:=∀(f:List UInt8)(ys:List L4)(c':Int)(t':BY),yg ys->vr c' t'.data.toList=true->Ls=f::(ys.map Uc++[Vf++32::Dc c' t',[]])->xs=ys.take (k-1)/\(ys.length+1<k->c=c'/\t=t')
theorem VT(a:List (List UInt8))(c:Int)(t:BY):ay a 1 [] c t:=λ_ ys _ _ _ _ _=>⟨E5,λh=>O0⟩
theorem DW(r:List UInt8):jC (Vf++32::r)=false:=by
 have:=(E8 (a:=Vf) (r:=r) Z5).1;unfold jC Xj;rw[this];decide
theorem yF{f:List UInt8}{ys:List L4}{g:List UInt8}(hk1:1<=k)(b:k<a.length)(e:a=f::(ys.map Uc++[g,[]])):
 (∃h:k-1<ys.length,a.getD k []=Uc (ys[k-1]))\/(k=ys.length+1/\a.getD k []=g)\/(k=ys.length+2/\a.getD k []=[]):=by
 subst e;obtain⟨j,rfl⟩:∃j,k=j+1:=⟨k-1,O0⟩;have c:(f::(ys.map Uc++[g,[]])).getD (j+1) []=(ys.map Uc++[g,[]]).getD j []:=rfl;rw[c];simp only[u_,P9,Cf,Td]at b;rcases D8 j ys.length with hl|hl
 ·refine .inl ⟨O0,?_⟩;rw[Sj,G_ (by simpa using hl)];simp[hl]
 right;rw[Sj,Ue (by simpa using hl)];simp only[Cf];have:j-ys.length=0\/j-ys.length=1:=O0;rcases this with h|h
 ·exact .inl ⟨O0,by rw[h];rfl⟩
 exact .inr ⟨O0,by rw[h];rfl⟩
theorem QW(h:ay a k xs c t)(j:1<=k)(l:k<a.length)(hx:nO (a.getD k []) x true):ay a (k+1) (xs++[x]) c t:=by
 intro f ys n g b hv e;obtain⟨h1,h2⟩:=h f ys n g b hv e;rcases yF j l e with⟨hl,e1⟩|⟨rfl,e1⟩|⟨rfl,e1⟩
 ·have d:=b.2 _ hl;have m:ys.getD (k-1) M_=ys[k-1]:=by simp[hl]
  rw[m]at d;obtain⟨_,i⟩:=hx.1 _ d e1;refine⟨?_,λh=>O0⟩;rw[h1,i,show k+1-1=(k-1)+1 by omega,Gz hl]
 ·have:=hx.2 (by rw[e1];exact DW _);cases this
 have:=hx.2 (by rw[e1];decide);cases this
theorem a1d{c2:Int}{t2:BY}(h:ay a k xs c t)(j:1<=k)(l:k<a.length)(hx:nO (a.getD k []) x false)(g:5<(a.getD k []).length)(hr:zL ((a.getD k []).drop 5) c2 t2):ay a (k+1) xs c2 t2:=by
 intro f ys n i b hv e;obtain⟨h1,h2⟩:=h f ys n i b hv e;rcases yF j l e with⟨hl,e1⟩|⟨rfl,e1⟩|⟨rfl,e1⟩
 ·have d:=b.2 _ hl;have m:ys.getD (k-1) M_=ys[k-1]:=by simp[hl]
  rw[m]at d;have:=(hx.1 _ d e1).1;cases this
 ·refine⟨?_,λ_=>hr _ _ (xh hv).1 (xh hv).2 (by rw[e1];rfl)⟩;rw[h1,C_ O0,C_ O0]
 rw[e1]at g;simp at g
theorem jY(h:ay a k xs c t)(m:1<=k)(n:k<a.length)(hx:nO (a.getD k []) x false)(j:¬5<(a.getD k []).length):ay a (k+1) xs c t:=by
 intro f ys d b g hv e;obtain⟨h1,h2⟩:=h f ys d b g hv e;rcases yF m n e with⟨hl,e1⟩|⟨rfl,e1⟩|⟨rfl,e1⟩
 ·have i:=g.2 _ hl;have o:ys.getD (k-1) M_=ys[k-1]:=by simp[hl]
  rw[o]at i;have:=(hx.1 _ i e1).1;cases this
 ·exfalso;rw[e1]at j;have l:Dc d b≠[]:=JE _ _;have:0<(Dc d b).length:=Rl.2 l;apply j;simp only[P9,u_,Vf,Td];omega
 exact⟨by rw[h1,C_ O0,C_ O0],λ_=>h2 O0⟩
theorem a2F{q:List UInt8}(hF:(x9 10 l).getD 0 []=F)(hw:Y2 F=Gl)(x:∀p,l_ (J3 F) 2=J6 p->q=p)(v:ay (x9 10 l) (x9 10 l).length xs c t):uV l (Qg ⟨I4 (Y2 (J3 F)),I4 (Y2 (l_ (J3 F) 1)),I4 q⟩ xs c t):=by
 intro y a e;have h1:=Sl a e;rw[hF]at h1;obtain⟨m,ls,h,d,⟨n1,n2,n3⟩,rfl⟩:=Zz a (Wh a (.inr (.inr (.inr (.inl rfl)))) h1 (by rw[hw];rfl));have hl:=jm a e;have b:x9 10 l=(Gl++32::Yd m)::(ls.map Uc++[Vf++32::Dc h d,[]]):=by rw[hl];simp[n_,Qg]
 obtain⟨f,n⟩:=v _ ls h d n2 n3 b;have hlen:(x9 10 l).length=ls.length+3:=by rw[b];simp
 obtain⟨rfl,rfl⟩:=n O0;rw[C_ O0]at f;rw[b]at hF;have z:Gl++32::Yd m=F:=hF;have hr:J3 F=Yd m:=by rw[<- z];exact(E8 Z5).2
 obtain⟨u,s,_⟩:=Lh n1;rw[Yc]at hr;obtain⟨w1,k⟩:=E8 (r:=m.tl.data.toList++32::J6 m.ar.data.toList) (Fa u).1;obtain⟨j,i⟩:=E8 (r:=J6 m.ar.data.toList) (Fa s).1;have g:l_ (J3 F) 1=m.tl.data.toList++32::J6 m.ar.data.toList:=by rw[hr];exact k
 have o:l_ (J3 F) 2=J6 m.ar.data.toList:=by
  show J3 (l_ (J3 F) 1)=_;rw[g];exact i
 have w:=x _ o;rw[g,hr,w1,j,w,f];rfl
