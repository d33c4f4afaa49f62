import Derived.Test.YtkccjgajimjjdaaGreatDoortW4
import Derived.Test.YtkccjgajimjjdaaGreatDooreQE
set_option linter.unusedVariables false
set_option maxHeartbeats 8000000
set_option maxRecDepth 100000
namespace Go.Proofs.YtkccjgajimjjdaaGreatDoor
open Proofs.Tryz Go.RowKit
theorem Nu(u:World)(B j:Nat)(a v1 x0 x1:Value)(h0:u.cell? ⟨B,j,none⟩=some x0)(h1:u.cell? ⟨B,j+1,none⟩=some x1):
 ((u.setCell ⟨B,j,none⟩ a).setCell ⟨B,j+1,none⟩ v1).cell? ⟨B,j,none⟩=some a/\((u.setCell ⟨B,j,none⟩ a).setCell ⟨B,j+1,none⟩ v1).cell? ⟨B,j+1,none⟩=some v1:=by
 have a1:(u.setCell (aA B j) a).cell? (aA B (j+1))=some x1:=by rw[Xb _ _ _ _ (vK O0)];exact h1
 refine⟨?_,Pg _ _ _ a1⟩;rw[Xb _ _ _ _ (vK O0)];exact Pg _ _ _ h0
def lU(l:List UInt8)(e:Ending):Prop:=∃(c:Int)(t:BY)(ok:Bool),e=.returned (.tuple #[.agg #[.int .i64 c,.string t],.bool ok])/\uD l c t ok/\t.size<=1048576
theorem a2m(l:List UInt8)(w:World)(hs:l.length<=16000)(p:Jc w):
 Calls prog 266 #[.string (I4 l)] w λe w'=>lU l e/\Bw w w':=by
 have o:Bw w (w.alloc (.cells #[vO,vE] 72)):=Y6;have hr:=Y8 l
 go_in
 go_wp2_with fail
 refine(kM l _ O0 (Q9 p o)).mono ?_;rintro e w1⟨⟨y,rfl⟩,n⟩;have m:Below (w.heap.size+1) (w.alloc (.cells #[vO,vE] 72)) w1:=YD n;clear n
 go_wp2_with fail
 refine(xZ 7 (I4 (Y2 l)) _ (by rw[P5];omega) O0 O0).mono ?_;rintro e w2⟨rfl,rfl⟩
 go_wp2_with fail
 refine(BP (J3 l) _ O0).mono ?_;rintro e i⟨⟨t,ok,rfl,d⟩,q⟩;have k:=m.trans (q.mono (by have h:=m.size;simp at h;omega));have j:=o.trans (k.mono O0);rw[f_];have a:(Ci 7 (Y2 l)=false\/ok=false)->Hid (lU l (.returned (.tuple #[.agg #[vO,vE],.bool false]))):=λh=>⟨0,⟨#[]⟩,false,rfl,rP d h _ _,Z5⟩;have c:Ci 7 (Y2 l)=true->ok=true->Hid (lU l (.returned (.tuple #[.agg #[vI (EI 7 (Y2 l)),vS (I4 t)],.bool true]))):=by
  intro h1 h2;subst h2;refine⟨_,_,true,rfl,XM d h1,?_⟩;have:=Zo t;rw[<- d.1 rfl]at this;rw[P5];omega
 clear d;obtain⟨⟨g,f⟩,y0,y1⟩:=rz2 k;cases hn:Ci 7 (Y2 l)
 ·have b:=a (.inl hn);clear a c;go_wp2;have F:=Nu i w.heap.size 0 vO vE _ _ g f;simp only[o9]at F;refine Q7 (v:=.tuple #[.agg #[vO,vE],.bool false]) (by simp[results,results266,go_sem,F.1,F.2]) rfl ⟨b.out,(j.setCell E5 _).setCell E5 _⟩
 cases ok
 ·have b:=a (.inr rfl);clear a c;go_wp2;have F:=Nu i w.heap.size 0 vO vE _ _ g f;simp only[o9]at F;refine Q7 (v:=.tuple #[.agg #[vO,vE],.bool false]) (by simp[results,results266,go_sem,F.1,F.2]) rfl ⟨b.out,(j.setCell E5 _).setCell E5 _⟩
 have b:=c hn rfl;clear a c;go_wp2;have F:=Nu i w.heap.size 0 (vI (EI 7 (Y2 l))) (vS (I4 t)) _ _ g f;simp only[o9]at F;refine Q7 (v:=.tuple #[.agg #[vI (EI 7 (Y2 l)),vS (I4 t)],.bool true]) (by simp[results,results266,go_sem,F.1,F.2]) rfl ⟨b.out,(j.setCell E5 _).setCell E5 _⟩
theorem has_eq(l:List UInt8):((I4 (Y2 l)).toList==[104,97,115])=Xj l:=by
 rw[ByteArray.toList_eq,f_];unfold Xj;by_cases h:Y2 l=[104,97,115]
 ·rw[h];rfl
 rw[o_ h];exact V_.2 h
theorem MR(l:List UInt8):((I4 (Y2 l)).toList==[97,115,107])=decide (Y2 l=[97,115,107]):=by
 rw[ByteArray.toList_eq,f_];by_cases h:Y2 l=[97,115,107]
 ·rw[h];rfl
 rw[o_ h];exact V_.2 h
theorem a5i(l:List UInt8)(w:World):
 Calls prog 320 #[.string (I4 (Y2 l))] w λe w'=>e=.returned (.tuple #[.bool (Xj l),.bool (jC l)])/\Bw w w':=by
 have h1:=has_eq l;have h2:=MR l;have b:jC l=(Xj l||decide (Y2 l=[97,115,107])):=rfl;generalize decide (Y2 l=[97,115,107])=a at*;generalize Xj l=h at*;generalize jC l=i at*;generalize I4 (Y2 l)=s at*;subst b
 go_in
 cases h<;>cases a
 all_goals
  go_wp2
  try go_region
 all_goals try go_wp2
 all_goals go_ret2
 all_goals
  refine⟨by first|rfl|simp[h1,h2],?_⟩
  first|exact G5 _ _|exact(G5 _ _).drew|exact(G5 _ _).drew.drew
theorem yI{w u:World}{vs:List Value}{t:TypeId}(a:Below (w.heap.size+1) (w.alloc (.cells vs.toArray t)) u):U6 u w.heap.size vs/\H9 u w.heap.size:=
 ⟨(a_ w vs t).below a O0,(jg w _ t).below a O0⟩
section
variable{P:Program}
theorem Za{fn:Func}{p q:Tmp}{ty:TypeId}(h:fn.results=#[.cell p ty,.tmp q])(tmps:Array Value)(w:World)(B:Nat)(cs:List Value)(v:Value)(d:TypeDesc)
 (f:tmps.getD p undef=.pointer (some ⟨B,0,none⟩)) (c:tmps.getD q undef=v) (hc:U6 w B cs)
 (a:P.underlying ty=some d) (hd:(match d with | .struct _ | .array _ _=>true|_=>false)=true) (g:(P.info? ty).map (·.size)=some cs.length):
 (results fn tmps).run P w=.ok (.tuple #[.agg cs.toArray,v]) w:=by
 have e:tmps[p]?.getD undef=.pointer (some (aA B 0)):=by simpa using f
 have b:tmps[q]?.getD undef=v:=by simpa using c
 simp[results,h,e,b,asAddr,lg w B ty cs d hc a hd g]
end
def L4.v(x:L4):Value:=.agg #[.bool x.has,.string x.nm,.int .i64 x.cd,.string x.tx]
def SQ(l:List UInt8)(e:Ending):Prop:=∃(x:L4)(ok:Bool),e=.returned (.tuple #[x.v,.bool ok])/\Qm l x ok/\x.le 1048576
theorem a3y(l:List UInt8)(w:World)(hs:l.length<=16000)(q:Jc w):
 Calls prog 300 #[.string (I4 l)] w λe w'=>SQ l e/\Bw w w':=by
 have j:Bw w (w.alloc (.cells #[.bool false,vE,vO,vE] 138)):=Y6;have hr:=Y8 l;have hr2:=Y8 (J3 l)
 go_in
 go_wp2_with fail
 refine(kM l _ O0 (Q9 q j)).mono ?_;rintro e w1⟨⟨y,rfl⟩,H⟩;have z:Below (w.heap.size+1) (w.alloc (.cells #[.bool false,vE,vO,vE] 138)) w1:=YD H;clear H;have K:=Q9 q (j.trans (z.mono O0))
 go_wp2_with fail
 refine(kM (J3 l) _ O0 K).mono ?_;rintro e w2⟨⟨y',rfl⟩,F⟩;have x:=z.trans (F.mono (by have h:=z.size;simp at h;omega));have hm2:=Q9 q (j.trans (x.mono O0));clear F
 go_wp2_with fail
 refine(a5i l _).mono ?_;rintro e w3⟨rfl,E⟩;have u:=x.trans (E.mono (by have h:=x.size;simp at h;omega));have J:=Q9 q (j.trans (u.mono O0));clear E
 go_wp2_with fail
 refine(a2m (J3 (J3 l)) _ O0 J).mono ?_;rintro e a⟨⟨c,t,ok,rfl,A,I⟩,D⟩;have s:=u.trans (D.mono (by have h:=u.size;simp at h;omega));clear D;have C:=j.trans (s.mono O0);have i:(jC l=false\/ok=false)->Hid (SQ l (.returned (.tuple #[.agg #[.bool false,vE,vO,vE],.bool false]))):=λh=>⟨M_,false,rfl,PO A h _,Z5,Z5⟩;have p:jC l=true->ok=true->Hid (SQ l (.returned (.tuple #[.agg #[.bool (Xj l),vS (I4 (Y2 (J3 l))),vI c,vS t],.bool true]))):=by
  intro h1 h2;subst h2;exact⟨⟨Xj l,I4 (Y2 (J3 l)),c,t⟩,true,rfl,gJ h1 A,by show(I4 (Y2 (J3 l))).size<=1048576;rw[P5];omega,I⟩
 clear A;obtain⟨b,f⟩:=yI (vs:=[.bool false,vE,vO,vE]) s;have g:w.heap.size<a.heap.size:=by have h:=s.size;simp at h;omega
 have hA:=λo=>b.below ((G5 a.heap.size a).alloc X7 o) g;have r:=λo=>f.below ((G5 a.heap.size a).alloc X7 o) g;have z0:=λo=>hA o 0 _ rfl;have z1:=λo=>hA o 1 _ rfl;have z2:=λo=>hA o 2 _ rfl;have z3:=λo=>hA o 3 _ rfl;have y0:=λo=>r o 0;have y1:=λo=>r o 1;have y2:=λo=>r o 2;have y3:=λo=>r o 3;have x0:=b 0 _ rfl;have x1:=b 1 _ rfl;have x2:=b 2 _ rfl;have x3:=b 3 _ rfl;have f0:=f 0;have f1:=f 1;have f2:=f 2;have f3:=f 3;cases hn:jC l
 ·have k:=i (.inl hn);clear i p;go_wp2;have n:=U6.fill (B:=w.heap.size) [.bool false,vE,vO,vE] [] [.bool false,vE,vO,vE] [] 0 b rfl rfl;have d:Bw w (fill a w.heap.size 0 [.bool false,vE,vO,vE]):=Ua X7 _ 0 C;have m:=d.size;refine Q7 (v:=.tuple #[.agg #[.bool false,vE,vO,vE],.bool false]) (by exact Za results300 _ _ w.heap.size _ _ _ rfl rfl (n.below Y6 (by rw[Vh];exact g)) underlying138 rfl Y1) rfl ⟨k.out,by exact d.alloc m _⟩
 cases ok
 ·have k:=i (.inr rfl);clear i p;go_wp2;have n:=U6.fill (B:=w.heap.size) [.bool false,vE,vO,vE] [] [.bool false,vE,vO,vE] [] 0 b rfl rfl;have d:Bw w (fill a w.heap.size 0 [.bool false,vE,vO,vE]):=Ua X7 _ 0 C;have m:=d.size;refine Q7 (v:=.tuple #[.agg #[.bool false,vE,vO,vE],.bool false]) (by exact Za results300 _ _ w.heap.size _ _ _ rfl rfl (n.below Y6 (by rw[Vh];exact g)) underlying138 rfl Y1) rfl ⟨k.out,by exact d.alloc m _⟩
 have k:=p hn rfl;clear i p;go_wp2;have n:=U6.fill (B:=w.heap.size) [.bool (Xj l),vS (I4 (Y2 (J3 l))),vI c,vS t] [] [.bool false,vE,vO,vE] [] 0 b rfl rfl;have d:Bw w (fill a w.heap.size 0 [.bool (Xj l),vS (I4 (Y2 (J3 l))),vI c,vS t]):=Ua X7 _ 0 C;have m:=d.size;refine Q7 (v:=.tuple #[.agg #[.bool (Xj l),vS (I4 (Y2 (J3 l))),vI c,vS t],.bool true]) (by exact Za results300 _ _ w.heap.size _ _ _ rfl rfl (n.below Y6 (by rw[Vh];exact g)) underlying138 rfl Y1) rfl ⟨k.out,by exact d.alloc m _⟩
end Go.Proofs.YtkccjgajimjjdaaGreatDoor
namespace Go.Proofs.YtkccjgajimjjdaaGreatDoor
open Proofs.Tryz Go.RowKit
variable{w w':World}{B e g n size:Nat}{xs:List Value}
theorem qw{v:Value}(h:w.ownsRow B e size v n xs)(c:Bw w w'):w'.ownsRow B e size v n xs:=by
 refine⟨h.1,?_⟩;rcases h.2 with h0|⟨g,cap,cur,hv,b,a,r⟩
 ·exact .inl h0
 refine .inr ⟨g,cap,cur,hv,b,?_,r⟩;rw[c.block g (h.lt g (by rw[hv];rfl)).2];exact a
theorem VL{m cp:Nat}(h:w.ownsRow B e size (.slice (some ⟨g,0,none⟩) m cp) n xs):n<=cp:=by
 rcases h.2 with⟨h0,_⟩|⟨g',cap,cur,hv,_,_,hc,_⟩
 ·cases h0
 cases hv;exact hc
def Bj(w:World)(g o:Nat)(ss:List (List UInt8)):Prop:=g<w.heap.size/\∀i,i<ss.length->w.cell? ⟨g,o+i,none⟩=some (.string (I4 (ss.getD i [])))
theorem Gs{o:Nat}{ss:List (List UInt8)}(h:Bj w g o ss)(a:Bw w w'):Bj w' g o ss:=
 ⟨U9 h.1 a.size,λi b=>by rw[a.cell (by exact h.1)];exact h.2 i b⟩
theorem r_{u:World}{vs:List Value}(h:U6 u B vs)(a:List Value)(hl:a.length=vs.length):∀i,i<a.length->(u.cell? ⟨B,0+i,none⟩).isSome=true:=λi hi=>by
 rw[o9,h i _ (L9 O0)];rfl
theorem Oa(vs:List Value):∀{u:World}(j:Nat)(p:Addr),p.block≠B->(fill u B j vs).cell? p=u.cell? p:=by
 induction vs with
 | nil=>intro u j p _;rfl
 | cons v vs ih=>intro u j p h;exact(ih (j+1) p h).trans (Xb _ _ _ _ (λe=>h (by rw[<- e])))
def zL(l:List UInt8)(c:Int)(t:BY):Prop:=∀c' t',0<=c'->c'<=7->l=Dc c' t'->c=c'/\t=t'
def a1t(l:List UInt8)(e:Ending):Prop:=∃(c:Int)(t:BY),e=.returned (.agg #[.int .i64 c,.string t])/\zL l c t/\t.size<=1048576
theorem Ku(l:List UInt8)(w:World)(a:l.length<=1048700)(K:Nat)(h1:1<=K)(h2:K<=10):
 Calls prog 124 #[.string (I4 l),.int .i64 K] w λe w'=>(∃g cp,e=.returned (.tuple #[.slice (some ⟨g,0,none⟩) K cp,.string (I4 (l_ l K))])/\w.heap.size<=g/\Oc w' g (Q_ l K))/\Below w.heap.size w w':=
 a2x K h1 h2 (I4 l) w (by rw[P5];exact a)
theorem a1O(l:List UInt8)(w:World)(hs:l.length<=16000):
 Calls prog 128 #[.string (I4 l)] w λe w'=>a1t l e/\Below w.heap.size w w':=by
 have x:Below w.heap.size w (w.alloc (.cells #[vO,vE] 72)):=Y6;have hr:=Y8 l
 go_in
 go_wp2_with fail
 refine(Ku l _ O0 1 O0 O0).mono ?_;rintro e w1⟨⟨g,cp,rfl,j,a⟩,n⟩;have c0:w1.cell? (aA g 0)=some (vS (I4 (Y2 l))):=a.2 0 (by simp[Q_]);have hg1:=a.1;have f:Below (w.heap.size+1) (w.alloc (.cells #[vO,vE] 72)) w1:=YD n;have hg2:w.heap.size<g:=by have h:=j;simp at h;omega
 clear n a j
 go_wp2_with fail
 refine(a0S (I4 (Y2 l)) _ (by rw[P5];omega)).mono ?_;rintro e w2⟨rfl,m⟩;rw[f_];have d:=f.trans (m.mono (by have h:=f.size;simp at h;omega));clear m
 go_wp2_with fail
 refine(a0V (I4 (J3 l)) _ (by rw[P5];omega)).mono ?_;rintro e r⟨⟨t,rfl,s,i⟩,k⟩;have c:=d.trans (k.mono (by have h:=d.size;simp at h;omega));clear k;have u:=x.trans (c.mono O0);rw[P5]at s;have y:Hid (a1t l (.returned (.agg #[vI (n29 (Y2 l)),vS (I4 t)]))):=⟨_,_,rfl,λc' b h0 h7 e=>by
  obtain⟨e1,o⟩:=Bv b h0;rw[<- e]at e1 o;refine⟨by rw[e1];exact qH h0 O0,?_⟩;rw[i b.data.toList (by rw[f_];exact o)];rfl,by rw[P5];omega⟩
 clear i;obtain⟨⟨q,p⟩,y0,y1⟩:=rz2 c;go_wp2;have F:=Nu r w.heap.size 0 (vI (n29 (Y2 l))) (vS (I4 t)) _ _ q p;simp only[o9]at F;refine Q7 (v:=.agg #[vI (n29 (Y2 l)),vS (I4 t)]) (by simp[results,results128,go_sem,F.1,F.2]) rfl ⟨y.out,(u.setCell E5 _).setCell E5 _⟩
