import Derived.Test.YtdgneicbmalnpaaGreatDoortW4
set_option linter.all false
set_option maxHeartbeats 0
set_option maxRecDepth 99999
open Go.Value renaming slice->Sa,string->Sb,int->Sc,pointer->Sd
open Go.IntKind renaming i64->Se
open Go.Ending renaming returned->Sf
namespace Go.Proofs.YtdgneicbmalnpaaGreatDoor
open Proofs.Tryz Go.RowKit
theorem iw(u:World)(B j:Nat)(a v1 x0 x1:Value)(h0:u.cell? ⟨B,j,none⟩=some x0)(h1:u.cell? ⟨B,j+1,none⟩=some x1):
 ((u.setCell ⟨B,j,none⟩ a).setCell ⟨B,j+1,none⟩ v1).cell? ⟨B,j,none⟩=some a/\((u.setCell ⟨B,j,none⟩ a).setCell ⟨B,j+1,none⟩ v1).cell? ⟨B,j+1,none⟩=some v1:=by
 have a1:(u.setCell (aA B j) a).cell? (aA B (j+1))=some x1:=by rw[Nb _ _ _ _ (DL O0)];exact h1
 refine⟨?_,Jg _ _ _ a1⟩;rw[Nb _ _ _ _ (DL O0)];exact Jg _ _ _ h0
def lV(l:List UInt8)(e:Ending):Prop:=∃(c:Int)(t:BY)(ok:Bool),e=Sf (.tuple #[.agg #[Sc Se c,Sb t],.bool ok])/\PE l c t ok/\t.size<=1048576
theorem a3O(l:List UInt8)(w:World)(hs:l.length<=16000)(p:Vd w):
 Calls prog 299 #[Sb (U3 l)] w λe w'=>lV l e/\Bw w w':=by
 have o:Bw w (w.alloc (.cells #[vO,vE] 117)):=U6;have hr:=X8 l
 go_in
 go_wp2_with fail
 refine(IL l _ O0 (S9 p o)).mono ?_;rintro e w1⟨⟨y,rfl⟩,n⟩;have m:Below (w.heap.size+1) (w.alloc (.cells #[vO,vE] 117)) w1:=bG n;clear n
 go_wp2_with fail
 refine(PZ 7 (U3 (Y1 l)) _ (by rw[I5];omega) O0 O0).mono ?_;rintro e w2⟨rfl,rfl⟩
 go_wp2_with fail
 refine(NT (Y2 l) _ O0).mono ?_;rintro e i⟨⟨t,ok,rfl,d⟩,q⟩;have k:=m.trans (q.mono (by have h:=m.size;simp at h;omega));have j:=o.trans (k.mono O0);rw[a_];have a:(Oi 7 (Y1 l)=false\/ok=false)->Hid (lV l (Sf (.tuple #[.agg #[vO,vE],.bool false]))):=λh=>⟨0,⟨#[]⟩,false,rfl,JQ d h _ _,U5⟩;have c:Oi 7 (Y1 l)=true->ok=true->Hid (lV l (Sf (.tuple #[.agg #[vI (ZI 7 (Y1 l)),vS (U3 t)],.bool true]))):=by
  intro h1 h2;subst h2;refine⟨_,_,true,rfl,pO d h1,?_⟩;have:=Fp t;rw[<- d.1 rfl]at this;rw[I5];omega
 clear d;obtain⟨⟨g,f⟩,y0,y1⟩:=rz2 k;cases hn:Oi 7 (Y1 l)
 ·have b:=a (.inl hn);clear a c;go_wp2;have F:=iw i w.heap.size 0 vO vE _ _ g f;simp only[Y8]at F;refine P7 (v:=.tuple #[.agg #[vO,vE],.bool false]) (by simp[results,results299,go_sem,F.1,F.2]) rfl ⟨b.o,(j.setCell J4 _).setCell J4 _⟩
 cases ok
 ·have b:=a (.inr rfl);clear a c;go_wp2;have F:=iw i w.heap.size 0 vO vE _ _ g f;simp only[Y8]at F;refine P7 (v:=.tuple #[.agg #[vO,vE],.bool false]) (by simp[results,results299,go_sem,F.1,F.2]) rfl ⟨b.o,(j.setCell J4 _).setCell J4 _⟩
 have b:=c hn rfl;clear a c;go_wp2;have F:=iw i w.heap.size 0 (vI (ZI 7 (Y1 l))) (vS (U3 t)) _ _ g f;simp only[Y8]at F;refine P7 (v:=.tuple #[.agg #[vI (ZI 7 (Y1 l)),vS (U3 t)],.bool true]) (by simp[results,results299,go_sem,F.1,F.2]) rfl ⟨b.o,(j.setCell J4 _).setCell J4 _⟩
theorem has_eq(l:List UInt8):((U3 (Y1 l)).toList==[104,97,115])=Uk l:=by
 rw[ByteArray.toList_eq,a_];unfold Uk;by_cases h:Y1 l=[104,97,115]
 ·rw[h];rfl
 rw[j_ h];exact S_.2 h
theorem oU(l:List UInt8):((U3 (Y1 l)).toList==[97,115,107])=decide (Y1 l=[97,115,107]):=by
 rw[ByteArray.toList_eq,a_];by_cases h:Y1 l=[97,115,107]
 ·rw[h];rfl
 rw[j_ h];exact S_.2 h
theorem a5n(l:List UInt8)(w:World):
 Calls prog 357 #[Sb (U3 (Y1 l))] w λe w'=>e=Sf (.tuple #[.bool (Uk l),.bool (OC l)])/\Bw w w':=by
 have h1:=has_eq l;have h2:=oU l;have b:OC l=(Uk l||decide (Y1 l=[97,115,107])):=rfl;generalize decide (Y1 l=[97,115,107])=a at*;generalize Uk l=h at*;generalize OC l=i at*;generalize U3 (Y1 l)=s at*;subst b
 go_in
 cases h<;>cases a
 all_goals
  go_wp2
  try go_region
 all_goals try go_wp2
 all_goals go_ret2
 all_goals
  refine⟨by first|rfl|simp[h1,h2],?_⟩
  first|exact O4 _ _|exact(O4 _ _).drew|exact(O4 _ _).drew.drew
theorem rH{w u:World}{vs:List Value}{t:TypeId}(a:Below (w.heap.size+1) (w.alloc (.cells vs.toArray t)) u):J6 u w.heap.size vs/\J9 u w.heap.size:=
 ⟨(X9 w vs t).below a O0,(og w _ t).below a O0⟩
section
variable{P:Program}
theorem Va{fn:Func}{p q:Tmp}{ty:TypeId}(h:fn.results=#[.cell p ty,.tmp q])(tmps:Array Value)(w:World)(B:Nat)(cs:List Value)(v:Value)(d:TypeDesc)
 (f:tmps.getD p undef=Sd (some ⟨B,0,none⟩)) (c:tmps.getD q undef=v) (hc:J6 w B cs)
 (a:P.underlying ty=some d) (hd:(match d with | .struct _ | .array _ _=>true|_=>false)=true) (g:(P.info? ty).map (·.size)=some cs.length):
 (results fn tmps).run P w=.ok (.tuple #[.agg cs.toArray,v]) w:=by
 have e:tmps[p]?.getD undef=Sd (some (aA B 0)):=by simpa using f
 have b:tmps[q]?.getD undef=v:=by simpa using c
 simp[results,h,e,b,asAddr,qg w B ty cs d hc a hd g]
end
def L4.v(x:L4):Value:=.agg #[.bool x.has,Sb x.nm,Sc Se x.cd,Sb x.tx]
def gQ(l:List UInt8)(e:Ending):Prop:=∃(x:L4)(ok:Bool),e=Sf (.tuple #[x.v,.bool ok])/\Bo l x ok/\x.le 1048576
theorem a4j(l:List UInt8)(w:World)(hs:l.length<=16000)(q:Vd w):
 Calls prog 338 #[Sb (U3 l)] w λe w'=>gQ l e/\Bw w w':=by
 have j:Bw w (w.alloc (.cells #[.bool false,vE,vO,vE] 213)):=U6;have hr:=X8 l;have hr2:=X8 (Y2 l)
 go_in
 go_wp2_with fail
 refine(IL l _ O0 (S9 q j)).mono ?_;rintro e w1⟨⟨y,rfl⟩,H⟩;have z:Below (w.heap.size+1) (w.alloc (.cells #[.bool false,vE,vO,vE] 213)) w1:=bG H;clear H;have K:=S9 q (j.trans (z.mono O0))
 go_wp2_with fail
 refine(IL (Y2 l) _ O0 K).mono ?_;rintro e w2⟨⟨y',rfl⟩,F⟩;have x:=z.trans (F.mono (by have h:=z.size;simp at h;omega));have hm2:=S9 q (j.trans (x.mono O0));clear F
 go_wp2_with fail
 refine(a5n l _).mono ?_;rintro e w3⟨rfl,E⟩;have u:=x.trans (E.mono (by have h:=x.size;simp at h;omega));have J:=S9 q (j.trans (u.mono O0));clear E
 go_wp2_with fail
 refine(a3O (Y2 (Y2 l)) _ O0 J).mono ?_;rintro e a⟨⟨c,t,ok,rfl,A,I⟩,D⟩;have s:=u.trans (D.mono (by have h:=u.size;simp at h;omega));clear D;have C:=j.trans (s.mono O0);have i:(OC l=false\/ok=false)->Hid (gQ l (Sf (.tuple #[.agg #[.bool false,vE,vO,vE],.bool false]))):=λh=>⟨K_,false,rfl,wO A h _,U5,U5⟩;have p:OC l=true->ok=true->Hid (gQ l (Sf (.tuple #[.agg #[.bool (Uk l),vS (U3 (Y1 (Y2 l))),vI c,vS t],.bool true]))):=by
  intro h1 h2;subst h2;exact⟨⟨Uk l,U3 (Y1 (Y2 l)),c,t⟩,true,rfl,nJ h1 A,by show(U3 (Y1 (Y2 l))).size<=1048576;rw[I5];omega,I⟩
 clear A;obtain⟨b,f⟩:=rH (vs:=[.bool false,vE,vO,vE]) s;have g:w.heap.size<a.heap.size:=by have h:=s.size;simp at h;omega
 have hA:=λo=>b.below ((O4 a.heap.size a).alloc A8 o) g;have r:=λo=>f.below ((O4 a.heap.size a).alloc A8 o) g;have z0:=λo=>hA o 0 _ rfl;have z1:=λo=>hA o 1 _ rfl;have z2:=λo=>hA o 2 _ rfl;have z3:=λo=>hA o 3 _ rfl;have y0:=λo=>r o 0;have y1:=λo=>r o 1;have y2:=λo=>r o 2;have y3:=λo=>r o 3;have x0:=b 0 _ rfl;have x1:=b 1 _ rfl;have x2:=b 2 _ rfl;have x3:=b 3 _ rfl;have f0:=f 0;have f1:=f 1;have f2:=f 2;have f3:=f 3;cases hn:OC l
 ·have k:=i (.inl hn);clear i p;go_wp2;have n:=J6.fill (B:=w.heap.size) [.bool false,vE,vO,vE] [] [.bool false,vE,vO,vE] [] 0 b rfl rfl;have d:Bw w (fill a w.heap.size 0 [.bool false,vE,vO,vE]):=Ub A8 _ 0 C;have m:=d.size;refine P7 (v:=.tuple #[.agg #[.bool false,vE,vO,vE],.bool false]) (by exact Va results338 _ _ w.heap.size _ _ _ rfl rfl (n.below U6 (by rw[Xh];exact g)) underlying213 rfl Y0) rfl ⟨k.o,by exact d.alloc m _⟩
 cases ok
 ·have k:=i (.inr rfl);clear i p;go_wp2;have n:=J6.fill (B:=w.heap.size) [.bool false,vE,vO,vE] [] [.bool false,vE,vO,vE] [] 0 b rfl rfl;have d:Bw w (fill a w.heap.size 0 [.bool false,vE,vO,vE]):=Ub A8 _ 0 C;have m:=d.size;refine P7 (v:=.tuple #[.agg #[.bool false,vE,vO,vE],.bool false]) (by exact Va results338 _ _ w.heap.size _ _ _ rfl rfl (n.below U6 (by rw[Xh];exact g)) underlying213 rfl Y0) rfl ⟨k.o,by exact d.alloc m _⟩
 have k:=p hn rfl;clear i p;go_wp2;have n:=J6.fill (B:=w.heap.size) [.bool (Uk l),vS (U3 (Y1 (Y2 l))),vI c,vS t] [] [.bool false,vE,vO,vE] [] 0 b rfl rfl;have d:Bw w (fill a w.heap.size 0 [.bool (Uk l),vS (U3 (Y1 (Y2 l))),vI c,vS t]):=Ub A8 _ 0 C;have m:=d.size;refine P7 (v:=.tuple #[.agg #[.bool (Uk l),vS (U3 (Y1 (Y2 l))),vI c,vS t],.bool true]) (by exact Va results338 _ _ w.heap.size _ _ _ rfl rfl (n.below U6 (by rw[Xh];exact g)) underlying213 rfl Y0) rfl ⟨k.o,by exact d.alloc m _⟩
end Go.Proofs.YtdgneicbmalnpaaGreatDoor
namespace Go.Proofs.YtdgneicbmalnpaaGreatDoor
open Proofs.Tryz Go.RowKit
variable{w w':World}{B e g n size:Nat}{xs:List Value}
theorem Yx{v:Value}(h:w.ownsRow B e size v n xs)(c:Bw w w'):w'.ownsRow B e size v n xs:=by
 refine⟨h.1,?_⟩;rcases h.2 with h0|⟨g,cap,cur,hv,b,a,r⟩
 ·exact .inl h0
 refine .inr ⟨g,cap,cur,hv,b,?_,r⟩;rw[c.block g (h.lt g (by rw[hv];rfl)).2];exact a
theorem LM{m cp:Nat}(h:w.ownsRow B e size (Sa (some ⟨g,0,none⟩) m cp) n xs):n<=cp:=by
 rcases h.2 with⟨h0,_⟩|⟨g',cap,cur,hv,_,_,hc,_⟩
 ·cases h0
 cases hv;exact hc
def Ej(w:World)(g o:Nat)(ss:List (List UInt8)):Prop:=g<w.heap.size/\∀i,i<ss.length->w.cell? ⟨g,o+i,none⟩=some (Sb (U3 (ss.getD i [])))
theorem Rt{o:Nat}{ss:List (List UInt8)}(h:Ej w g o ss)(a:Bw w w'):Ej w' g o ss:=
 ⟨P9 h.1 a.size,λi b=>by rw[a.cell (by exact h.1)];exact h.2 i b⟩
theorem l_{u:World}{vs:List Value}(h:J6 u B vs)(a:List Value)(hl:a.length=vs.length):∀i,i<a.length->(u.cell? ⟨B,0+i,none⟩).isSome=true:=λi hi=>by
 rw[Y8,h i _ (V8 O0)];rfl
theorem Ia(vs:List Value):∀{u:World}(j:Nat)(p:Addr),p.block≠B->(fill u B j vs).cell? p=u.cell? p:=by
 induction vs with
 | nil=>intro u j p _;rfl
 | cons v vs ih=>intro u j p h;exact(ih (j+1) p h).trans (Nb _ _ _ _ (λe=>h (by rw[<- e])))
def zL(l:List UInt8)(c:Int)(t:BY):Prop:=∀c' t',0<=c'->c'<=7->l=Ec c' t'->c=c'/\t=t'
def a2k(l:List UInt8)(e:Ending):Prop:=∃(c:Int)(t:BY),e=Sf (.agg #[Sc Se c,Sb t])/\zL l c t/\t.size<=1048576
theorem Zv(l:List UInt8)(w:World)(hs:l.length<=1048700)(K:Nat)(h1:1<=K)(h2:K<=10):
 Calls prog 147 #[Sb (U3 l),Sc Se K] w λe w'=>(∃g cp,e=Sf (.tuple #[Sa (some ⟨g,0,none⟩) K cp,Sb (U3 (g_ l K))])/\w.heap.size<=g/\Tc w' g (Q_ l K))/\Below w.heap.size w w':=
 a2z K h1 h2 (U3 l) w (by rw[I5];exact hs)
theorem a3X(l:List UInt8)(w:World)(hs:l.length<=16000):
 Calls prog 151 #[Sb (U3 l)] w λe w'=>a2k l e/\Below w.heap.size w w':=by
 have x:Below w.heap.size w (w.alloc (.cells #[vO,vE] 117)):=U6;have hr:=X8 l
 go_in
 go_wp2_with fail
 refine(Zv l _ O0 1 O0 O0).mono ?_;rintro e w1⟨⟨g,cp,rfl,j,a⟩,n⟩;have c0:w1.cell? (aA g 0)=some (vS (U3 (Y1 l))):=a.2 0 (by simp[Q_]);have hg1:=a.1;have f:Below (w.heap.size+1) (w.alloc (.cells #[vO,vE] 117)) w1:=bG n;have hg2:w.heap.size<g:=by have h:=j;simp at h;omega
 clear n a j
 go_wp2_with fail
 refine(c148 (U3 (Y1 l)) _ (by rw[I5];omega)).mono ?_;rintro e w2⟨rfl,m⟩;rw[a_];have d:=f.trans (m.mono (by have h:=f.size;simp at h;omega));clear m
 go_wp2_with fail
 refine(a1R (U3 (Y2 l)) _ (by rw[I5];omega)).mono ?_;rintro e r⟨⟨t,rfl,s,i⟩,k⟩;have c:=d.trans (k.mono (by have h:=d.size;simp at h;omega));clear k;have u:=x.trans (c.mono O0);rw[I5]at s;have y:Hid (a2k l (Sf (.agg #[vI (n29 (Y1 l)),vS (U3 t)]))):=⟨_,_,rfl,λc' b h0 h7 e=>by
  obtain⟨e1,o⟩:=zy b h0;rw[<- e]at e1 o;refine⟨by rw[e1];exact kH h0 O0,?_⟩;rw[i b.data.toList (by rw[a_];exact o)];rfl,by rw[I5];omega⟩
 clear i;obtain⟨⟨q,p⟩,y0,y1⟩:=rz2 c;go_wp2;have F:=iw r w.heap.size 0 (vI (n29 (Y1 l))) (vS (U3 t)) _ _ q p;simp only[Y8]at F;refine P7 (v:=.agg #[vI (n29 (Y1 l)),vS (U3 t)]) (by simp[results,results151,go_sem,F.1,F.2]) rfl ⟨y.o,(u.setCell J4 _).setCell J4 _⟩
