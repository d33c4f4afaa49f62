import Derived.Test.YtdgneicbmalnpaaGreatDooreEM
set_option maxRecDepth 99999
set_option linter.all false
set_option maxHeartbeats 0
open Go.Value renaming slice->Sa,string->Sb,int->Sc,pointer->Sd
open Go.IntKind renaming i64->Se
namespace Go.Proofs.YtdgneicbmalnpaaGreatDoor
open Proofs.Tryz Go.RowKit
variable{W W' u w:World}{B base k:Nat}{rs:List R3}{ts:LB}{rv tv:Value}{F l:List UInt8}{c:Int}{t:BY}{a:List (List UInt8)}{xs:List L4}{x:L4}
theorem mY(v:Value)(w:World):(Instr.typeAssert (.iface 306 v) 243 306 true).run prog w=.ok (.tuple #[v,.bool true]) w:=Y0
theorem QY(v:Value)(w:World):(Instr.typeAssert (.iface 307 v) 243 306 true).run prog w=.ok (.tuple #[Sc Se 0,.bool false]) w:=Y0
theorem gY(v:Value)(w:World):(Instr.typeAssert (.iface 307 v) 243 307 true).run prog w=.ok (.tuple #[v,.bool true]) w:=Y0
theorem jZ(v:Value)(w:World):(Instr.typeAssert (.iface 308 v) 243 306 true).run prog w=.ok (.tuple #[Sc Se 0,.bool false]) w:=Y0
theorem vY(v:Value)(w:World):(Instr.typeAssert (.iface 308 v) 243 307 true).run prog w=.ok (.tuple #[.agg #[Sb ⟨#[]⟩,Sb ⟨#[]⟩],.bool false]) w:=Y0
theorem ZX(v:Value)(w:World):(Instr.typeAssert (.iface 308 v) 243 308 true).run prog w=.ok (.tuple #[v,.bool true]) w:=Y0
theorem FX(v:Value)(w:World):(Instr.typeAssert (.iface 310 v) 243 306 true).run prog w=.ok (.tuple #[Sc Se 0,.bool false]) w:=Y0
theorem eY(v:Value)(w:World):(Instr.typeAssert (.iface 310 v) 243 307 true).run prog w=.ok (.tuple #[.agg #[Sb ⟨#[]⟩,Sb ⟨#[]⟩],.bool false]) w:=Y0
theorem OW(v:Value)(w:World):(Instr.typeAssert (.iface 310 v) 243 308 true).run prog w=.ok (.tuple #[Sb ⟨#[]⟩,.bool false]) w:=Y0
theorem ZY(v:Value)(w:World):(Instr.typeAssert (.iface 310 v) 243 310 true).run prog w=.ok (.tuple #[v,.bool true]) w:=Y0
theorem gX(v:Value)(w:World):(Instr.typeAssert (.iface 313 v) 243 306 true).run prog w=.ok (.tuple #[Sc Se 0,.bool false]) w:=Y0
theorem VX(v:Value)(w:World):(Instr.typeAssert (.iface 313 v) 243 307 true).run prog w=.ok (.tuple #[.agg #[Sb ⟨#[]⟩,Sb ⟨#[]⟩],.bool false]) w:=Y0
theorem wX(v:Value)(w:World):(Instr.typeAssert (.iface 313 v) 243 308 true).run prog w=.ok (.tuple #[Sb ⟨#[]⟩,.bool false]) w:=Y0
theorem iW(v:Value)(w:World):(Instr.typeAssert (.iface 313 v) 243 310 true).run prog w=.ok (.tuple #[.agg #[Sb ⟨#[]⟩,Sb ⟨#[]⟩,Sb ⟨#[]⟩,Sa none 0 0,Sc Se 0,Sb ⟨#[]⟩],.bool false]) w:=Y0
theorem RY(v:Value)(w:World):(Instr.typeAssert (.iface 313 v) 243 313 true).run prog w=.ok (.tuple #[v,.bool true]) w:=Y0
def zE:List Value:=[Sc Se 0,Sc Se 0,Sb ⟨#[]⟩,Sb ⟨#[]⟩,Sb ⟨#[]⟩,Sb ⟨#[]⟩,Sb ⟨#[]⟩,Sa none 0 0,Sc Se 0,Sb ⟨#[]⟩]
open Go.RowKit Go.Maps
theorem flat3{α:Type}(f:α->List Value)(hf:∀a,(f a).length=3):∀(l:List α)(k:Nat)(hk:k<l.length)(j:Nat),j<3->(l.flatMap f)[k*3+j]?=(f (l[k]))[j]?
 | [],k,hk,_,_=>absurd hk (U8 _)
 | x::r,0,_,j,hj=>by
  rw[Xf,D_ (by rw[hf];omega)];simp
 | x::r,k+1,hk,j,hj=>by
  have b:=flat3 f hf r k (by simpa using hk) j hj;rw[Xf,Yf (by rw[hf];omega),hf];have e:(k+1)*3+j-3=k*3+j:=O0;rw[e,b];simp
theorem a0j(rs:List R3)(vs:List Value)(k:Nat)(hk:k<rs.length):(rC rs vs)[k*3]?=some (Sb (rs.getD k d_).key)/\(rC rs vs)[k*3+1]?=some (vs.getD k undef)/\(rC rs vs)[k*3+2]?=some (Sb (rs.getD k d_).o):=by
 have h:=flat3 (λi=>[Sb (rs.getD i d_).key,vs.getD i undef,Sb (rs.getD i d_).o]) (λ_=>rfl) (List.range rs.length) k (by simpa using hk);have h0:=h 0 O0;have h1:=h 1 O0;have h2:=h 2 O0;simp only[List.getElem_range]at h0 h1 h2;exact⟨h0,h1,h2⟩
theorem jI{a2:OA}{c2:Nat}{vs:List Value}(h:Bg W base (Sa a2 rs.length c2) rs vs):ug W a2 rs:=by
 have b:=h.row;rcases h.row.2 with⟨hv,h0⟩|⟨g,cap,cur,hv,hg,d,_⟩
 ·exact .inl (Xb.1 h0)
 simp only[Hu]at hv;obtain⟨rfl,_,rfl⟩:=hv;refine .inr ⟨g,0,rfl,(Ya.1 d).1,λk hk=>?_⟩;obtain⟨i,a1,a2⟩:=a0j rs vs k hk;obtain⟨a,c,e,f⟩:=h.gl k hk;refine⟨a,c,?_,?_,?_,yN f⟩
 ·rw[Y8,b.cellAt (k*3) O0];exact i
 ·rw[Y8,b.cellAt (k*3+1) O0,a1,e]
 rw[Y8,b.cellAt (k*3+2) O0];exact a2
theorem su(h:W_ W base ts rs tv rv)(hk:∀q t,oh W q t->t=9\/t=179\/t=235->W'.heap[q]?=W.heap[q]?):W_ W' base ts rs tv rv:=by
 obtain⟨h1,vs,h2⟩:=h;exact⟨Z4 h1 (λq a=>hk q 9 (X6 h1 a) (.inl rfl)),vs,h2.keep (λq t hT ht _=>hk q t hT (.inr ht))⟩
theorem Oy(h:W_ W base ts rs tv rv)(a:Bw W W'):W_ W' base ts rs tv rv:=
 su h (λq t hT _=>a.block q (Ld hT))
theorem Ij{base':Nat}(h:W_ W base ts rs tv rv)(a:base'<=base):W_ W base' ts rs tv rv:=by
 obtain⟨h1,vs,h⟩:=h;exact⟨I7 h1 a,vs,h.len,I7 h.row a,λi b=>by
  obtain⟨d,c3,e,c⟩:=h.gl i b;exact⟨d,c3,e,I7 c a⟩,h.apart⟩
theorem lM:Fj.le 1048576:=⟨Y4 _,Y4 _,⟨Y4 _,Y4 _,Y4 _⟩,⟨Y4 _,λ_=>⟨Y4 _,Y4 _⟩⟩,Y4 _⟩
theorem a0Z(x:z_)(hk:x.kd=4)(b:OA)(i:Nat)(w:World)(hle:x.le 1048576)(v:O9 w b x.ls):
 Calls prog 152 #[.agg #[Sc Se 4,Sc Se x.ep,Sb x.fn,Sb x.ft,Sb x.km.nm,Sb x.km.tl,Sb x.km.ar,Sa b x.ls.length i,Sc Se x.cd,Sb x.tx]] w λe w'=>QC (I9 x) (P_ x) e/\Bw w w':=by
 obtain⟨f1,f2,⟨m1,m2,m3⟩,⟨hl,hs⟩,f3⟩:=hle;have hB0:∀o,Bw w (w.alloc o):=λo=>U6
 go_in
 go_wp2_with fail
 refine(PV 4 x.ep x.cd 0 0 x.cd x.fn x.ft x.km.nm x.km.tl x.km.ar x.tx ⟨#[]⟩ ⟨#[]⟩ x.km.nm x.km.tl x.km.ar x.tx b b x.ls.length x.ls.length i i _ hl hl).mono ?_;rintro e D⟨⟨r,rfl,hr⟩,N⟩;have P:=U0 (hr.trans (a6M hk));have q:Below (w.heap.size+1) (w.alloc (.cells #[vI 4,vI x.ep,vS x.fn,vS x.ft,vS x.km.nm,vS x.km.tl,vS x.km.ar,vL b x.ls.length i,vI x.cd,vS x.tx] 171)) D:=bG N;have s:=(hB0 _).trans (q.mono O0);have m:=(X9 w [vI 4,vI x.ep,vS x.fn,vS x.ft,vS x.km.nm,vS x.km.tl,vS x.km.ar,vL b x.ls.length i,vI x.cd,vS x.tx] 171).below q O0;have d:w.heap.size<D.heap.size:=by have h:=q.size;simp at h;omega
 clear hr N q;have n4:=m 4 _ rfl;have n5:=m 5 _ rfl;have n6:=m 6 _ rfl;have n7:=m 7 _ rfl;have F:=m 8 _ rfl;have E:=m 9 _ rfl;cases r
 ·have z:Hid (QC (I9 x) (P_ x) (.returned vE)):=Rl (λh=>absurd (P.o.2 ((a0L hk).1 h).1) Am);go_wp2;go_ret;exact⟨z.o,s⟩
 have Q:=U0 (P.o.1 rfl)
 go_wp2_with fail
 refine(a2w x.km x.ls x.cd x.tx b i _ ⟨m1,m2,m3⟩ hl hs f3 (Q7 v s)).mono ?_;rintro e w1⟨⟨U,rfl,H⟩,a⟩;have O:=U0 H;have y:=E5 s a;have k4:=(a.cell (by exact d)).trans n4;have k5:=(a.cell (by exact d)).trans n5;have k6:=(a.cell (by exact d)).trans n6;have k7:=(a.cell (by exact d)).trans n7;have k8:=(a.cell (by exact d)).trans F;have k9:=(a.cell (by exact d)).trans E;have l:=P9 d a.size;have HAT:=U0 v;have HS:=U0 hs;clear H a n4 n5 n6 n7 F E d m s v hs;cases U
 ·have z:Hid (QC (I9 x) (P_ x) (.returned vE)):=Rl (λh=>absurd (O.o.2 ((a0L hk).1 h).2) Am);go_wp2;go_ret;exact⟨z.o,y⟩
 have p:=U0 (O.o.1 rfl);have HOK:=U0 ((a0L hk).2 ⟨Q.o,p.o⟩);obtain⟨C,B,A⟩:=EF p.o.1;have y0:x.km.nm.size<=20:=by simpa using C
 have y1:x.km.tl.size<=20:=by simpa using B
 have y2:x.km.ar.size<=300:=by simpa using A
 have y3:=vg x.km.ar;have y4:(U3 (N_ x.ls)).size<=13950:=by rw[I5];exact Iy p.o.2.1
 have t:=U0 (Dh p.o.2.2);have y5:(U3 (Ec x.cd x.tx)).size<=904:=by rw[I5];exact kF t.o.1 t.o.2 (JF p.o.2.2)
 have HE:Hid ((⟨#[114,97,110,32]⟩:BY)++x.km.nm++⟨#[32]⟩++x.km.tl++⟨#[32]⟩++U3 (Z5 x.km.ar.data.toList)++⟨#[10]⟩++U3 (N_ x.ls)++⟨#[103,97,118,101,32]⟩++U3 (Ec x.cd x.tx)++⟨#[10]⟩=U3 (P_ x)):=by show _=_;rw[a3p,<- Q.o]
 have g0:¬9223372036854775807<4+x.km.nm.size:=O0;have g1':¬9223372036854775807<=4+x.km.nm.size:=O0;have g1:¬9223372036854775807<4+x.km.nm.size+1:=O0;have g2:¬9223372036854775807<4+x.km.nm.size+1+x.km.tl.size:=O0;have g3':¬9223372036854775807<=4+x.km.nm.size+1+x.km.tl.size:=O0;have g3:¬9223372036854775807<4+x.km.nm.size+1+x.km.tl.size+1:=O0;have g4:¬9223372036854775807<4+x.km.nm.size+1+x.km.tl.size+1+(U3 (Z5 x.km.ar.data.toList)).size:=O0;have g5':¬9223372036854775807<=4+x.km.nm.size+1+x.km.tl.size+1+(U3 (Z5 x.km.ar.data.toList)).size:=O0;have g5:¬9223372036854775807<4+x.km.nm.size+1+x.km.tl.size+1+(U3 (Z5 x.km.ar.data.toList)).size+1:=O0;have g6:¬9223372036854775807<4+x.km.nm.size+1+x.km.tl.size+1+(U3 (Z5 x.km.ar.data.toList)).size+1+(U3 (N_ x.ls)).size:=O0;have g7:¬9223372036854775807<4+x.km.nm.size+1+x.km.tl.size+1+(U3 (Z5 x.km.ar.data.toList)).size+1+(U3 (N_ x.ls)).size+5:=O0;have g8:¬9223372036854775807<4+x.km.nm.size+1+x.km.tl.size+1+(U3 (Z5 x.km.ar.data.toList)).size+1+(U3 (N_ x.ls)).size+5+(U3 (Ec x.cd x.tx)).size:=O0;have g9':¬9223372036854775807<=4+x.km.nm.size+1+x.km.tl.size+1+(U3 (Z5 x.km.ar.data.toList)).size+1+(U3 (N_ x.ls)).size+5+(U3 (Ec x.cd x.tx)).size:=O0;have g9:¬9223372036854775807<4+x.km.nm.size+1+x.km.tl.size+1+(U3 (Z5 x.km.ar.data.toList)).size+1+(U3 (N_ x.ls)).size+5+(U3 (Ec x.cd x.tx)).size+1:=O0;have h9:¬(16000:Int)<4+(x.km.nm.size:Int)+1+(x.km.tl.size:Int)+1+((U3 (Z5 x.km.ar.data.toList)).size:Int)+1+((U3 (N_ x.ls)).size:Int)+5+((U3 (Ec x.cd x.tx)).size:Int)+1:=O0;clear C B A
 go_wp2_with fail
 refine wp_region_held_drew (S:=(λu=>u.cell? (aW w 4)=some (vS x.km.nm)/\u.cell? (aW w 5)=some (vS x.km.tl)/\u.cell? (aW w 6)=some (vS x.km.ar)/\u.cell? (aW w 7)=some (vL b x.ls.length i)/\u.cell? (aW w 8)=some (vI x.cd)/\u.cell? (aW w 9)=some (vS x.tx))) Y0 ?_ λhHeld=>?_
 · ((try dsimp only);go_keep)
 refine y_ 0 ?_;refine y_ 1 ?_;refine y_ 2 ?_;refine y_ 3 ?_;refine y_ 4 ?_;refine y_ 5 ?_;refine y_ 6 ?_;refine y_ 7 ?_;refine y_ 8 ?_;refine y_ 9 ?_;refine y_ 10 ?_;refine y_ 11 ?_;refine y_ 12 ?_;refine y_ 16 ?_;refine y_ 17 ?_;refine y_ 21 ?_;refine y_ 22 ?_;refine rq 13 λK g=>?_;go_simp;refine(NM x.km.ar _ O0).mono ?_;rintro e R⟨rfl,L⟩;have c:Hid (Bw w1 R):=((O4 _ _).drew).trans L;have p4:=(c.o.cell (by exact l)).trans k4;have p5:=(c.o.cell (by exact l)).trans k5;have p6:=(c.o.cell (by exact l)).trans k6;have p7:=(c.o.cell (by exact l)).trans k7;have p8:=(c.o.cell (by exact l)).trans k8;have p9:=(c.o.cell (by exact l)).trans k9;have f:=P9 l c.o.size;clear L
 go_wp2_with fail
 clear hHeld;refine uT g λhHeld=>?_;clear g K
 iterate 2 refine sq ?_
 refine rq 18 λK g=>?_;go_simp;refine(c203 b i x.ls _ p.o.2.1 HS (Q7 HAT (E5 y c))).mono ?_;rintro e w3⟨rfl,J⟩;have j:=U0 J;have q4:=(j.o.cell (by exact f)).trans p4;have Z:=(j.o.cell (by exact f)).trans p5;have Y:=(j.o.cell (by exact f)).trans p6;have X:=(j.o.cell (by exact f)).trans p7;have W:=(j.o.cell (by exact f)).trans p8;have V:=(j.o.cell (by exact f)).trans p9;have k:=P9 f j.o.size;clear J
 go_wp2_with fail
 clear hHeld;refine uT g λhHeld=>?_;clear g K
 iterate 2 refine sq ?_
 refine rq 23 λK g=>?_;go_simp;refine(a1r x.cd x.tx _ t.o.1 (by have:=t.o.2;omega) O0).mono ?_;rintro e w4⟨rfl,I⟩;have n:=U0 I;have r4:=(n.o.cell (by exact k)).trans q4;have r5:=(n.o.cell (by exact k)).trans Z;have r6:=(n.o.cell (by exact k)).trans Y;have r7:=(n.o.cell (by exact k)).trans X;have r8:=(n.o.cell (by exact k)).trans W;have r9:=(n.o.cell (by exact k)).trans V;clear I
 go_wp2_with fail
 clear hHeld;refine uT g λhHeld=>?_;clear g K
 iterate 3 refine sq ?_
 refine wdn ?_;have hB2:=((E5 y c).trans (j.o.mono (yw f))).trans (n.o.mono (yw k));clear hHeld;go_wp2;go_ret;exact⟨⟨_,rfl,.inl ⟨HOK,HE⟩⟩,hB2⟩
def LP(l:List UInt8)(x:L4)(ok:Bool):Prop:=(∀y,Ri y->l=Bd y->ok=true/\x=y)/\(OC l=false->ok=false)
def a1j(l:List UInt8)(e:Ending):Prop:=∃(x:L4)(ok:Bool),e=.returned (.tuple #[x.v,.bool ok])/\LP l x ok/\x.le 1048576
theorem a1X(h:OC l=false)(x:L4):LP l x false:=by
 refine⟨λy b e=>?_,λ_=>rfl⟩;obtain⟨a,_⟩:=Io b.1;rw[<- e]at a;rw[(Fv a).1]at h;cases h
theorem VY(h:OC l=true)(hr:zL (Y2 (Y2 l)) c t):LP l ⟨Uk l,U3 (Y1 (Y2 l)),c,t⟩ true:=by
 constructor
 ·intro y f e;obtain⟨a,b,d⟩:=Io f.1;rw[<- e]at a b d;obtain⟨h1,h2⟩:=hr _ _ (Aj f).1 (Aj f).2 d;refine⟨rfl,?_⟩;rw[(Fv a).2,b,h1,h2];rfl
 intro e;rw[h]at e;cases e
theorem a2W(l:List UInt8)(w:World)(hs:l.length<=16000):
 Calls prog 150 #[Sb (U3 l)] w λe w'=>a1j l e/\Bw w w':=by
 have V:Bw w (w.alloc (.cells #[.bool false,vE,vO,vE] 213)):=U6;have hr:=X8 l;have hr2:=X8 (Y2 l);have h1:=has_eq l;have h2:=oU l;have U:OC l=(Uk l||decide (Y1 l=[97,115,107])):=rfl
 go_in
 go_wp2_with fail
 refine(Zv l _ O0 2 O0 O0).mono ?_;rintro e w1⟨⟨g,cp,rfl,P,H⟩,Q⟩;have p:w1.cell? (aA g 0)=some (vS (U3 (Y1 l))):=H.2 0 (by simp[Q_]);have o:w1.cell? (aA g 1)=some (vS (U3 (Y1 (Y2 l)))):=H.2 1 (by simp[Q_]);have n:=H.1;have F:Below (w.heap.size+1) (w.alloc (.cells #[.bool false,vE,vO,vE] 213)) w1:=bG Q;have hg2:w.heap.size<g:=by have h:=P;simp at h;omega
 have E:=V.trans (F.mono O0);obtain⟨C,D⟩:=rH (vs:=[.bool false,vE,vO,vE]) F;have L:OC l=false->Hid (a1j l (.returned (.tuple #[.agg #[.bool false,vE,vO,vE],.bool false]))):=λh=>⟨K_,false,rfl,a1X h _,⟨Y4 _,Y4 _⟩⟩;have J:OC l=true->∀c t,zL (Y2 (Y2 l)) c t->t.size<=1048576->Hid (a1j l (.returned (.tuple #[.agg #[.bool (Uk l),vS (U3 (Y1 (Y2 l))),vI c,vS t],.bool true]))):=λh c t O ht=>⟨⟨Uk l,U3 (Y1 (Y2 l)),c,t⟩,true,rfl,VY h O,⟨by show(U3 (Y1 (Y2 l))).size<=1048576;rw[I5];omega,ht⟩⟩;have h50:=a3X (Y2 (Y2 l));have N:U3 (g_ l 2)=U3 (Y2 (Y2 l)):=rfl;rw[N];have I:(Y2 (Y2 l)).length<=16000:=O0;generalize Y2 (Y2 l)=R at*;generalize U3 (Y1 (Y2 l))=B at*;generalize decide (Y1 l=[97,115,107])=a at*;generalize Uk l=h at*;generalize OC l=i at*;generalize U3 (Y1 l)=s at*;have m:w.heap.size<w1.heap.size:=by have h:=F.size;simp at h;omega
 subst U;cases h
 ·cases a
  ·have j:=L rfl
   go_wp2_with(refine H8 rfl 213 (.tmp 2) (.tmp 21) rfl w.heap.size 0 rfl [.bool false,vE,vO,vE] rfl (l_ C _ rfl) D (by simp[Value.oneCell']) Y0 rfl ?_)
   have k:=J6.fill (B:=w.heap.size) [.bool false,vE,vO,vE] [] [.bool false,vE,vO,vE] [] 0 C rfl rfl;refine P7 (v:=.tuple #[.agg #[.bool false,vE,vO,vE],.bool false]) (by exact Va results150 _ _ w.heap.size _ _ _ rfl rfl k underlying213 rfl Y0) rfl ⟨j,by exact Ub A8 _ 0 E⟩
  clear L
  go_wp2_with fail
  refine wp_region_held_drew (S:=(λu=>u.cell? (aA g 0)=some (vS s)/\u.cell? (aA g 1)=some (vS B))) Y0 ?_ λhHeld=>?_
  ·exact⟨p,o⟩
  iterate 8 refine sq ?_
  refine rq 8 λK d=>?_;go_simp;refine(h50 _ I).mono ?_;rintro e q⟨⟨c,t,rfl,x,r⟩,y⟩;have b:Bw w1 q:=((O4 _ _).drew).trans y;have f:=C.below b m;have z:=D.below b m;have A:=E5 E b;have j:=J (by first|rfl|trivial) c t x r;have e0:=(b.cell (by exact n)).trans p;have e1:=(b.cell (by exact n)).trans o
  go_wp2_with fail
  refine G9 d ?_ λhHeld=>?_
  ·exact⟨e0,e1⟩
  refine sq ?_;refine rq 10 λK d=>?_;refine Qd rfl 213 (.tmp 2) (.tmp 31) rfl w.heap.size 0 rfl [.bool false,vS B,vI c,vS t] rfl (l_ f _ rfl) z (by simp[Value.oneCell']) Y0 rfl ?_;refine G9 d ?_ λhHeld=>?_
  ·exact⟨(Ia _ 0 (aA g 0) (by show g≠w.heap.size;omega)).trans e0,(Ia _ 0 (aA g 1) (by show g≠w.heap.size;omega)).trans e1⟩
  refine sq ?_;refine wdn ?_;go_wp2;have k:=J6.fill (B:=w.heap.size) [.bool false,vS B,vI c,vS t] [] [.bool false,vE,vO,vE] [] 0 f rfl rfl;refine P7 (v:=.tuple #[.agg #[.bool false,vS B,vI c,vS t],.bool true]) (by exact Va results150 _ _ w.heap.size _ _ _ rfl rfl k underlying213 rfl Y0) rfl ⟨j,by exact Ub A8 _ 0 A⟩
 clear L;cases a
 ·go_wp2_with fail
  refine wp_region_held_drew (S:=(λu=>u.cell? (aA g 0)=some (vS s)/\u.cell? (aA g 1)=some (vS B))) Y0 ?_ λhHeld=>?_
  ·exact⟨p,o⟩
  iterate 8 refine sq ?_
  refine rq 8 λK d=>?_;go_simp;refine(h50 _ I).mono ?_;rintro e q⟨⟨c,t,rfl,x,r⟩,y⟩;have b:Bw w1 q:=((O4 _ _).drew).trans y;have f:=C.below b m;have z:=D.below b m;have A:=E5 E b;have j:=J (by first|rfl|trivial) c t x r;have e0:=(b.cell (by exact n)).trans p;have e1:=(b.cell (by exact n)).trans o
  go_wp2_with fail
  refine G9 d ?_ λhHeld=>?_
  ·exact⟨e0,e1⟩
  refine sq ?_;refine rq 10 λK d=>?_;refine Qd rfl 213 (.tmp 2) (.tmp 31) rfl w.heap.size 0 rfl [.bool true,vS B,vI c,vS t] rfl (l_ f _ rfl) z (by simp[Value.oneCell']) Y0 rfl ?_;refine G9 d ?_ λhHeld=>?_
  ·exact⟨(Ia _ 0 (aA g 0) (by show g≠w.heap.size;omega)).trans e0,(Ia _ 0 (aA g 1) (by show g≠w.heap.size;omega)).trans e1⟩
  refine sq ?_;refine wdn ?_;go_wp2;have k:=J6.fill (B:=w.heap.size) [.bool true,vS B,vI c,vS t] [] [.bool false,vE,vO,vE] [] 0 f rfl rfl;refine P7 (v:=.tuple #[.agg #[.bool true,vS B,vI c,vS t],.bool true]) (by exact Va results150 _ _ w.heap.size _ _ _ rfl rfl k underlying213 rfl Y0) rfl ⟨j,by exact Ub A8 _ 0 A⟩
 go_wp2_with fail
 refine wp_region_held_drew (S:=(λu=>u.cell? (aA g 0)=some (vS s)/\u.cell? (aA g 1)=some (vS B))) Y0 ?_ λhHeld=>?_
 ·exact⟨p,o⟩
 iterate 8 refine sq ?_
 refine rq 8 λK d=>?_;go_simp;refine(h50 _ I).mono ?_;rintro e q⟨⟨c,t,rfl,x,r⟩,y⟩;have b:Bw w1 q:=((O4 _ _).drew).trans y;have f:=C.below b m;have z:=D.below b m;have A:=E5 E b;have j:=J (by first|rfl|trivial) c t x r;have e0:=(b.cell (by exact n)).trans p;have e1:=(b.cell (by exact n)).trans o
 go_wp2_with fail
 refine G9 d ?_ λhHeld=>?_
 ·exact⟨e0,e1⟩
 refine sq ?_;refine rq 10 λK d=>?_;refine Qd rfl 213 (.tmp 2) (.tmp 31) rfl w.heap.size 0 rfl [.bool true,vS B,vI c,vS t] rfl (l_ f _ rfl) z (by simp[Value.oneCell']) Y0 rfl ?_;refine G9 d ?_ λhHeld=>?_
 ·exact⟨(Ia _ 0 (aA g 0) (by show g≠w.heap.size;omega)).trans e0,(Ia _ 0 (aA g 1) (by show g≠w.heap.size;omega)).trans e1⟩
 refine sq ?_;refine wdn ?_;go_wp2;have k:=J6.fill (B:=w.heap.size) [.bool true,vS B,vI c,vS t] [] [.bool false,vE,vO,vE] [] 0 f rfl rfl;refine P7 (v:=.tuple #[.agg #[.bool true,vS B,vI c,vS t],.bool true]) (by exact Va results150 _ _ w.heap.size _ _ _ rfl rfl k underlying213 rfl Y0) rfl ⟨j,by exact Ub A8 _ 0 A⟩
theorem c152(x:z_)(a:OA)(b:Nat)(w:World)(d:x.le 1048576)(f:O9 w a x.ls):
 Calls prog 152 #[.agg (x.c a b).toArray] w λe w'=>QC (I9 x) (P_ x) e/\Bw w w':=by
 show Calls prog 152 #[.agg #[Sc Se x.kd,Sc Se x.ep,Sb x.fn,Sb x.ft,Sb x.km.nm,Sb x.km.tl,Sb x.km.ar,Sa a x.ls.length b,Sc Se x.cd,Sb x.tx]] w _;by_cases h1:x.kd=1
 ·have:=a1E x h1 a b w d f;rw[h1];exact this
 by_cases h2:x.kd=2
 ·have:=a0N x h2 a b w d f;rw[h2];exact this
 by_cases i:x.kd=3
 ·have:=a1M x i a b w d f;rw[i];exact this
 by_cases h:x.kd=4
 ·have:=a0Z x h a b w d f;rw[h];exact this
 by_cases g:x.kd=5
 ·have:=a1f x g a b w d f;rw[g];exact this
 exact tY x a b w h1 h2 i h g
def RES(l:List UInt8)(x:z_)(ok:Bool):Prop:=(ok=true->I9 x/\P_ x=l/\∀y,I9 y->P_ y=l->x=y)/\(ok=false->∀y,I9 y->P_ y≠l)
def Is4(l:List UInt8)(w':World)(e:Ending):Prop:=∃(x:z_)(ok:Bool)(ai:OA)(ci:Nat),e=.returned (.tuple #[.agg (x.c ai ci).toArray,.bool ok])/\RES l x ok/\(ok=false->x=Fj/\ai=none/\ci=0)/\x.le 1048576/\O9 w' ai x.ls
def VW(l:List UInt8)(x:z_):Prop:=∀y,I9 y->P_ y=l->x=y
theorem Us{a:BY}{x:z_}(hx:VW l x)(hT:(I9 x/\a=U3 (P_ x))\/(¬I9 x/\a=⟨#[]⟩))(hl:l≠[])(he:a.data.toList=l):RES l x true:=by
 refine⟨λ_=>?_,(λh=>by cases h)⟩;rcases hT with⟨h1,h2⟩|⟨h1,h2⟩
 ·exact⟨h1,by rw[<- he,h2];rfl,hx⟩
 rw[h2]at he;exact absurd he.symm hl
theorem Dw{a:BY}{x:z_}(hx:VW l x)(hT:(I9 x/\a=U3 (P_ x))\/(¬I9 x/\a=⟨#[]⟩))(he:a.data.toList≠l):RES l Fj false:=by
 refine⟨(λh=>by cases h),λ_ y b e=>?_⟩;have:=hx y b e;subst this;rcases hT with⟨h1,h2⟩|⟨h1,h2⟩
 ·apply he;rw[h2];exact e
 exact h1 b
theorem rM(h:l=[]\/16000<l.length):RES l Fj false:=by
 refine⟨(λh=>by cases h),λ_ y a e=>?_⟩;have:=UM a;rw[e]at this;rcases h with h|h
 ·rw[h]at this;simp at this
 omega
theorem sJ{a:Act}(x:z_)(b:OA)(d:Nat)(ok:Bool)(f:RES l x ok)(hz:ok=false->x=Fj/\b=none/\d=0)(hx:x.le 1048576)(g:O9 (fill u w.heap.size 0 (x.c b d)) b x.ls)(j:a.tmps.getD 2 undef=Sd (some ⟨w.heap.size,0,none⟩))(i:a.tmps.getD 3 undef=.bool ok)(hd:a.defers=[])(hA:J6 u w.heap.size zE)(h:Bw w u):
 bodyPost prog Tryz.f108 (λe w'=>Is4 l w' e/\Bw w w') .ret a (fill u w.heap.size 0 (x.c b d)):=by
 have k:=J6.fill (B:=w.heap.size) (x.c b d) [] zE [] 0 hA rfl rfl;exact P7 (v:=.tuple #[.agg (x.c b d).toArray,.bool ok]) (Va results108 _ _ w.heap.size _ _ _ j i k underlying171 rfl Y0) hd ⟨⟨x,ok,b,d,rfl,f,hz,hx,g⟩,Ub A8 _ 0 h⟩
theorem ql{a:Act}(b:RES l Fj false)(f:a.tmps.getD 2 undef=Sd (some ⟨w.heap.size,0,none⟩))(d:a.tmps.getD 3 undef=.bool false)(hd:a.defers=[])(hA:J6 u w.heap.size zE)(c:Bw w u):
 bodyPost prog Tryz.f108 (λe w'=>Is4 l w' e/\Bw w w') .ret a (fill u w.heap.size 0 zE):=
 sJ Fj none 0 false b (λ_=>⟨rfl,rfl,rfl⟩) lM (.inl rfl) f d hd hA c
theorem gm(vs:List Value){c:OA}{is:List L4}(h:O9 u c is)(e:∀g o,c=some ⟨g,o,none⟩->g≠B):O9 (fill u B 0 vs) c is:=by
 rcases h with h|⟨b,off,h1,h2,f⟩
 ·exact .inl h
 refine .inr ⟨b,off,h1,by rw[Xh];exact h2,λi d=>?_⟩;have a:=e b off h1;rw[Ia _ _ _ a,Ia _ _ _ a,Ia _ _ _ a,Ia _ _ _ a];exact f i d
theorem YB{e size n:Nat}{v:Value}{xs:List Value}(h:w.ownsRow B e size v n xs)(p:Addr)(y:Value)(hp:p.block<B):(w.setCell p y).ownsRow B e size v n xs:=by
 refine⟨h.1,?_⟩;rcases h.2 with h0|⟨g,cap,cur,hv,b,a,r⟩
 ·exact .inl h0
 refine .inr ⟨g,cap,cur,hv,b,?_,r⟩;rw[Go.Deep.blk_setCell_other w p y g O0];exact a
theorem Cb{P:Program}{ops:Array Oper}{rest:List Oper}{o:Oper}{a:Act}{Q:Exit->Act->World->Prop}(hw:Region.wanted o (yielded ops a.tmps)=true)(ty:TypeId)(x:Operand)(ho:o.op=.load ty x)
 (B:Nat) (hx:a.eval x=Sd (some ⟨B,0,none⟩)) (cs:List Value) (d:TypeDesc) (hc:J6 w B cs)
 (b:P.underlying ty=some d) (hd:(match d with | .struct _ | .array _ _=>true|_=>false)=true) (c:(P.info? ty).map (·.size)=some cs.length)
 (h:wpList P ops Q rest (a.put o.dst (.agg cs.toArray)) w):wpList P ops Q (o::rest) a w:=by
 refine wpList_step λK e=>?_;rw[D8 hw];unfold Oper.wp execOp;simp only[ho,hx,Instr.loadAt,Instr.sureAddr,Xi,Tj,Sm,qg w B ty cs d hc b hd c];exact e _ _ h
theorem Lm{y:z_}(a:I9 y)(e:P_ y=l):Z8 10 l=n_ y++[[]]:=by
 rw[<- e];exact sH _ (uH a)
theorem Zl{y:z_}(a:I9 y)(e:P_ y=l):Y1 ((Z8 10 l).getD 0 [])=XC y:=by
 rw[Lm a e];have d:n_ y≠[]:=by unfold n_;(repeat' split)<;>simp
 obtain⟨f,b,c⟩:=List.exists_cons_of_ne_nil d;rw[c];exact(Af a c.symm).1
theorem kR(x:z_)(h1:Y1 ((Z8 10 l).getD 0 [])≠Ul)(h2:Y1 ((Z8 10 l).getD 0 [])≠Je)(d:Y1 ((Z8 10 l).getD 0 [])≠Si)(c:Y1 ((Z8 10 l).getD 0 [])≠Qh)(b:Y1 ((Z8 10 l).getD 0 [])≠qh):VW l x:=by
 intro y a e;exfalso;have hw:=Zl a e;unfold XC at hw;split at hw
 ·exact h2 hw
 split at hw
 ·exact d hw
 split at hw
 ·exact c hw
 split at hw
 ·exact h1 hw
 exact b hw
theorem a3i(hF:(Z8 10 l).getD 0 []=F)(hw:Y1 F=Je):VW l (A_ (n29 (Y2 F))):=by
 intro y a e;have h1:=Zl a e;rw[hF]at h1;obtain⟨n,hn,rfl⟩:=Ru a (Di a (.inl rfl) h1 (by rw[hw];rfl));rw[Lm a e]at hF;have b:Je++32::dec n=F:=hF;have hr:Y2 F=dec n:=by rw[<- b];exact(G8 U5).2
 rw[hr,kH O0 O0]
theorem a4b{t:List UInt8}(hF:(Z8 10 l).getD 0 []=F)(hw:Y1 F=Si)(ht:∀q,Y2 (Y2 F)=Z5 q->t=q):VW l (Mc (U3 (Y1 (Y2 F))) (U3 t)):=by
 intro y c e;have h1:=Zl c e;rw[hF]at h1;obtain⟨a,b,f,rfl⟩:=Uz c (Di c (.inr (.inl rfl)) h1 (by rw[hw];rfl));rw[Lm c e]at hF;have g:Si++32::(a.data.toList++32::Z5 b.data.toList)=F:=hF;have hr:Y2 F=a.data.toList++32::Z5 b.data.toList:=by rw[<- g];exact(G8 U5).2
 obtain⟨w1,d⟩:=G8 (r:=Z5 b.data.toList) (Ja f.1).1;rw[<- hr]at w1 d;rw[w1,ht _ d];rfl
theorem a3a(hF:(Z8 10 l).getD 0 []=F)(hw:Y1 F=Qh):VW l (Oc (U3 (Y2 F))):=by
 intro y b e;have h1:=Zl b e;rw[hF]at h1;obtain⟨a,hn,rfl⟩:=Qu b (Di b (.inr (.inr (.inl rfl))) h1 (by rw[hw];rfl));rw[Lm b e]at hF;have c:Qh++32::a.data.toList=F:=hF;have hr:Y2 F=a.data.toList:=by rw[<- c];exact(G8 U5).2
 rw[hr];rfl
theorem a2h(hF:(Z8 10 l).getD 0 []=F)(hw:Y1 F=qh):VW l Ua:=by
 intro y a e;have h1:=Zl a e;rw[hF]at h1;exact(Zz a (Di a (.inr (.inr (.inr (.inr rfl)))) h1 (by rw[hw];rfl))).symm
def Gz(Ls:List (List UInt8))(k:Nat)(xs:List L4)(c:Int)(t:BY):Prop:=∀(f:List UInt8)(ys:List L4)(c':Int)(t':BY),Ig ys->vr c' t'.data.toList=true->Ls=f::(ys.map Bd++[mg++32::Ec c' t',[]])->xs=ys.take (k-1)/\(ys.length+1<k->c=c'/\t=t')
theorem QV(a:List (List UInt8))(c:Int)(t:BY):Gz a 1 [] c t:=λ_ ys _ _ _ _ _=>⟨J4,λh=>O0⟩
theorem FZ(r:List UInt8):OC (mg++32::r)=false:=by
 have:=(G8 (a:=mg) (r:=r) U5).1;unfold OC Uk;rw[this];decide
theorem qG{f:List UInt8}{ys:List L4}{g:List UInt8}(hk1:1<=k)(hk:k<a.length)(e:a=f::(ys.map Bd++[g,[]])):
 (∃h:k-1<ys.length,a.getD k []=Bd (ys[k-1]))\/(k=ys.length+1/\a.getD k []=g)\/(k=ys.length+2/\a.getD k []=[]):=by
 subst e;obtain⟨j,rfl⟩:∃j,k=j+1:=⟨k-1,O0⟩;have b:(f::(ys.map Bd++[g,[]])).getD (j+1) []=(ys.map Bd++[g,[]]).getD j []:=rfl;rw[b];simp only[f_,Q9,Ve,Fb]at hk;rcases Z7 j ys.length with hl|hl
 ·refine .inl ⟨O0,?_⟩;rw[Qk,D_ (by simpa using hl)];simp[hl]
 right;rw[Qk,Yf (by simpa using hl)];simp only[Ve];have:j-ys.length=0\/j-ys.length=1:=O0;rcases this with h|h
 ·exact .inl ⟨O0,by rw[h];rfl⟩
 exact .inr ⟨O0,by rw[h];rfl⟩
theorem KY(h:Gz a k xs c t)(j:1<=k)(hk:k<a.length)(hx:LP (a.getD k []) x true):Gz a (k+1) (xs++[x]) c t:=by
 intro f ys m g b hv e;obtain⟨h1,h2⟩:=h f ys m g b hv e;rcases qG j hk e with⟨hl,e1⟩|⟨rfl,e1⟩|⟨rfl,e1⟩
 ·have d:=b.2 _ hl;have l:ys.getD (k-1) K_=ys[k-1]:=by simp[hl]
  rw[l]at d;obtain⟨_,i⟩:=hx.1 _ d e1;refine⟨?_,λh=>O0⟩;rw[h1,i,show k+1-1=(k-1)+1 by omega,SB hl]
 ·have:=hx.2 (by rw[e1];exact FZ _);cases this
 have:=hx.2 (by rw[e1];decide);cases this
theorem a1I{c2:Int}{t2:BY}(h:Gz a k xs c t)(j:1<=k)(hk:k<a.length)(hx:LP (a.getD k []) x false)(g:5<(a.getD k []).length)(hr:zL ((a.getD k []).drop 5) c2 t2):Gz a (k+1) xs c2 t2:=by
 intro f ys m i b hv e;obtain⟨h1,h2⟩:=h f ys m i b hv e;rcases qG j hk e with⟨hl,e1⟩|⟨rfl,e1⟩|⟨rfl,e1⟩
 ·have d:=b.2 _ hl;have l:ys.getD (k-1) K_=ys[k-1]:=by simp[hl]
  rw[l]at d;have:=(hx.1 _ d e1).1;cases this
 ·refine⟨?_,λ_=>hr _ _ (Dh hv).1 (Dh hv).2 (by rw[e1];rfl)⟩;rw[h1,p_ O0,p_ O0]
 rw[e1]at g;simp at g
theorem GZ(h:Gz a k xs c t)(m:1<=k)(hk:k<a.length)(hx:LP (a.getD k []) x false)(j:¬5<(a.getD k []).length):Gz a (k+1) xs c t:=by
 intro f ys d b g hv e;obtain⟨h1,h2⟩:=h f ys d b g hv e;rcases qG m hk e with⟨hl,e1⟩|⟨rfl,e1⟩|⟨rfl,e1⟩
 ·have i:=g.2 _ hl;have n:ys.getD (k-1) K_=ys[k-1]:=by simp[hl]
  rw[n]at i;have:=(hx.1 _ i e1).1;cases this
 ·exfalso;rw[e1]at j;have l:Ec d b≠[]:=lF _ _;have:0<(Ec d b).length:=dm.2 l;apply j;simp only[Q9,f_,mg,Fb];omega
 exact⟨by rw[h1,p_ O0,p_ O0],λ_=>h2 O0⟩
theorem a3A{q:List UInt8}(hF:(Z8 10 l).getD 0 []=F)(hw:Y1 F=Ul)(w:∀p,g_ (Y2 F) 2=Z5 p->q=p)(hs:Gz (Z8 10 l) (Z8 10 l).length xs c t):VW l (Xg ⟨U3 (Y1 (Y2 F)),U3 (Y1 (g_ (Y2 F) 1)),U3 q⟩ xs c t):=by
 intro y a e;have h1:=Zl a e;rw[hF]at h1;obtain⟨m,ls,h,d,⟨n1,n2,n3⟩,rfl⟩:=AB a (Di a (.inr (.inr (.inr (.inl rfl)))) h1 (by rw[hw];rfl));have hl:=Lm a e;have b:Z8 10 l=(Ul++32::je m)::(ls.map Bd++[mg++32::Ec h d,[]]):=by rw[hl];simp[n_,Xg]
 obtain⟨f,n⟩:=hs _ ls h d n2 n3 b;have hlen:(Z8 10 l).length=ls.length+3:=by rw[b];simp
 obtain⟨rfl,rfl⟩:=n O0;rw[p_ O0]at f;rw[b]at hF;have x:Ul++32::je m=F:=hF;have hr:Y2 F=je m:=by rw[<- x];exact(G8 U5).2
 obtain⟨u,s,_⟩:=Wh n1;rw[Ed]at hr;obtain⟨w1,k⟩:=G8 (r:=m.tl.data.toList++32::Z5 m.ar.data.toList) (Ja u).1;obtain⟨j,i⟩:=G8 (r:=Z5 m.ar.data.toList) (Ja s).1;have g:g_ (Y2 F) 1=m.tl.data.toList++32::Z5 m.ar.data.toList:=by rw[hr];exact k
 have o:g_ (Y2 F) 2=Z5 m.ar.data.toList:=by
  show Y2 (g_ (Y2 F) 1)=_;rw[g];exact i
 have v:=w _ o;rw[g,hr,w1,j,v,f];rfl
