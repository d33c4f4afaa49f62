import Derived.Test.YtbgdfcmeheaiiaaGreatDooreR2
import Derived.Test.YtbgdfcmeheaiiaaGreatDooryF
import Derived.Test.YtbgdfcmeheaiiaaGreatDoorqB
import Derived.Test.YtbgdfcmeheaiiaaGreatDoorvF
set_option linter.unusedVariables false
set_option linter.unusedSimpArgs false
set_option maxHeartbeats 8000000
set_option maxRecDepth 100000
namespace Go.Proofs.YtbgdfcmeheaiiaaGreatDoor
open Proofs.Tryz Go.RowKit
theorem cu(u:World)(B j:Nat)(a b x0 x1:Value)(h0:u.cell? ⟨B,j,none⟩=some x0)(h1:u.cell? ⟨B,j+1,none⟩=some x1):
 ((u.setCell ⟨B,j,none⟩ a).setCell ⟨B,j+1,none⟩ b).cell? ⟨B,j,none⟩=some a/\((u.setCell ⟨B,j,none⟩ a).setCell ⟨B,j+1,none⟩ b).cell? ⟨B,j+1,none⟩=some b:=by
 have a1:(u.setCell (aA B j) a).cell? (aA B (j+1))=some x1:=by rw[Qa _ _ _ _ (wK O0)];exact h1
 refine⟨?_,ng _ _ _ a1⟩;rw[Qa _ _ _ _ (wK O0)];exact ng _ _ _ h0
def qU(l:List UInt8)(e:Ending):Prop:=∃(c:Int)(t:BY)(ok:Bool),e=.returned (.tuple #[.agg #[.int .i64 c,.string t],.bool ok])/\bD l c t ok/\t.size<=1048576
theorem a2q(l:List UInt8)(w:World)(hs:l.length<=16000)(q:Oc w):
 Calls prog 287 #[.string (Y2 l)] w λe w'=>qU l e/\Bw w w':=by
 have o:Bw w (w.alloc (.cells #[vO,vE] 71)):=P6;have hr:=H8 l
 go_in
 go_wp2_with fail
 refine(oL l _ O0 (H9 q o)).mono ?_;rintro e p⟨⟨y,rfl⟩,n⟩;have m:Below (w.heap.size+1) (w.alloc (.cells #[vO,vE] 71)) p:=Tq n;clear n
 go_wp2_with fail
 refine(QY 7 (Y2 (O1 l)) _ (by rw[Y4];omega) O0 O0).mono ?_;rintro e w2⟨rfl,rfl⟩
 go_wp2_with fail
 refine(nP (Y1 l) _ O0).mono ?_;rintro e i⟨⟨t,ok,rfl,d⟩,r⟩;have k:=m.trans (r.mono (by have h:=m.size;simp at h;omega));have j:=o.trans (k.mono O0);rw[Q9];have a:(Qh 7 (O1 l)=false\/ok=false)->Hid (qU l (.returned (.tuple #[.agg #[vO,vE],.bool false]))):=λh=>⟨0,⟨#[]⟩,false,rfl,rU d h _ _,J6⟩;have c:Qh 7 (O1 l)=true->ok=true->Hid (qU l (.returned (.tuple #[.agg #[vI (iI 7 (O1 l)),vS (Y2 t)],.bool true]))):=by
  intro h1 h2;subst h2;refine⟨_,_,true,rfl,kM d h1,?_⟩;have:=Gn t;rw[<- d.1 rfl]at this;rw[Y4];omega
 clear d;obtain⟨⟨g,f⟩,y0,y1⟩:=rz2 k;cases hn:Qh 7 (O1 l)
 ·have b:=a (.inl hn);clear a c;go_wp2;have F:=cu i w.heap.size 0 vO vE _ _ g f;simp only[l7]at F;refine o7 (v:=.tuple #[.agg #[vO,vE],.bool false]) (by simp[results,results287,go_sem,F.1,F.2]) rfl ⟨b.out,(j.setCell O4 _).setCell O4 _⟩
 cases ok
 ·have b:=a (.inr rfl);clear a c;go_wp2;have F:=cu i w.heap.size 0 vO vE _ _ g f;simp only[l7]at F;refine o7 (v:=.tuple #[.agg #[vO,vE],.bool false]) (by simp[results,results287,go_sem,F.1,F.2]) rfl ⟨b.out,(j.setCell O4 _).setCell O4 _⟩
 have b:=c hn rfl;clear a c;go_wp2;have F:=cu i w.heap.size 0 (vI (iI 7 (O1 l))) (vS (Y2 t)) _ _ g f;simp only[l7]at F;refine o7 (v:=.tuple #[.agg #[vI (iI 7 (O1 l)),vS (Y2 t)],.bool true]) (by simp[results,results287,go_sem,F.1,F.2]) rfl ⟨b.out,(j.setCell O4 _).setCell O4 _⟩
theorem has_eq(l:List UInt8):((Y2 (O1 l)).toList==[104,97,115])=Cj l:=by
 rw[ByteArray.toList_eq,Q9];unfold Cj;by_cases h:O1 l=[104,97,115]
 ·rw[h];rfl
 rw[y9 h];exact K_.2 h
theorem SQ(l:List UInt8):((Y2 (O1 l)).toList==[97,115,107])=decide (O1 l=[97,115,107]):=by
 rw[ByteArray.toList_eq,Q9];by_cases h:O1 l=[97,115,107]
 ·rw[h];rfl
 rw[y9 h];exact K_.2 h
theorem a3m(l:List UInt8)(w:World):
 Calls prog 322 #[.string (Y2 (O1 l))] w λe w'=>e=.returned (.tuple #[.bool (Cj l),.bool (MB l)])/\Bw w w':=by
 have h1:=has_eq l;have h2:=SQ l;have b:MB l=(Cj l||decide (O1 l=[97,115,107])):=rfl;generalize decide (O1 l=[97,115,107])=a at*;generalize Cj l=h at*;generalize MB l=i at*;generalize Y2 (O1 l)=s at*;subst b
 go_in
 cases h<;>cases a
 all_goals
  go_wp2
  try go_region
 all_goals try go_wp2
 all_goals go_ret2
 all_goals
  refine⟨by first|rfl|simp[h1,h2],?_⟩
  first|exact J4 _ _|exact(J4 _ _).drew|exact(J4 _ _).drew.drew
theorem iG{w u:World}{vs:List Value}{t:TypeId}(a:Below (w.heap.size+1) (w.alloc (.cells vs.toArray t)) u):E5 u w.heap.size vs/\o9 u w.heap.size:=
 ⟨(I9 w vs t).below a O0,(Rf w _ t).below a O0⟩
section
variable{P:Program}
theorem Y_{fn:Func}{p q:Tmp}{ty:TypeId}(h:fn.results=#[.cell p ty,.tmp q])(tmps:Array Value)(w:World)(B:Nat)(cs:List Value)(v:Value)(d:TypeDesc)
 (f:tmps.getD p undef=.pointer (some ⟨B,0,none⟩)) (c:tmps.getD q undef=v) (hc:E5 w B cs)
 (a:P.underlying ty=some d) (hd:(match d with | .struct _ | .array _ _=>true|_=>false)=true) (g:(P.info? ty).map (·.size)=some cs.length):
 (results fn tmps).run P w=.ok (.tuple #[.agg cs.toArray,v]) w:=by
 have e:tmps[p]?.getD undef=.pointer (some (aA B 0)):=by simpa using f
 have b:tmps[q]?.getD undef=v:=by simpa using c
 simp[results,h,e,b,asAddr,Hf w B ty cs d hc a hd g]
end
def L4.v(x:L4):Value:=.agg #[.bool x.has,.string x.nm,.int .i64 x.cd,.string x.tx]
def JP(l:List UInt8)(e:Ending):Prop:=∃(x:L4)(ok:Bool),e=.returned (.tuple #[x.v,.bool ok])/\Lm l x ok/\x.le 1048576
theorem a3D(l:List UInt8)(w:World)(hs:l.length<=16000)(q:Oc w):
 Calls prog 321 #[.string (Y2 l)] w λe w'=>JP l e/\Bw w w':=by
 have j:Bw w (w.alloc (.cells #[.bool false,vE,vO,vE] 201)):=P6;have hr:=H8 l;have hr2:=H8 (Y1 l)
 go_in
 go_wp2_with fail
 refine(oL l _ O0 (H9 q j)).mono ?_;rintro e I⟨⟨y,rfl⟩,H⟩;have z:Below (w.heap.size+1) (w.alloc (.cells #[.bool false,vE,vO,vE] 201)) I:=Tq H;clear H;have L:=H9 q (j.trans (z.mono O0))
 go_wp2_with fail
 refine(oL (Y1 l) _ O0 L).mono ?_;rintro e w2⟨⟨y',rfl⟩,F⟩;have x:=z.trans (F.mono (by have h:=z.size;simp at h;omega));have hm2:=H9 q (j.trans (x.mono O0));clear F
 go_wp2_with fail
 refine(a3m l _).mono ?_;rintro e w3⟨rfl,E⟩;have u:=x.trans (E.mono (by have h:=x.size;simp at h;omega));have K:=H9 q (j.trans (u.mono O0));clear E
 go_wp2_with fail
 refine(a2q (Y1 (Y1 l)) _ O0 K).mono ?_;rintro e a⟨⟨c,t,ok,rfl,A,J⟩,D⟩;have s:=u.trans (D.mono (by have h:=u.size;simp at h;omega));clear D;have C:=j.trans (s.mono O0);have i:(MB l=false\/ok=false)->Hid (JP l (.returned (.tuple #[.agg #[.bool false,vE,vO,vE],.bool false]))):=λh=>⟨l_,false,rfl,YL A h _,J6,J6⟩;have p:MB l=true->ok=true->Hid (JP l (.returned (.tuple #[.agg #[.bool (Cj l),vS (Y2 (O1 (Y1 l))),vI c,vS t],.bool true]))):=by
  intro h1 h2;subst h2;exact⟨⟨Cj l,Y2 (O1 (Y1 l)),c,t⟩,true,rfl,KI h1 A,by show(Y2 (O1 (Y1 l))).size<=1048576;rw[Y4];omega,J⟩
 clear A;obtain⟨b,f⟩:=iG (vs:=[.bool false,vE,vO,vE]) s;have g:w.heap.size<a.heap.size:=by have h:=s.size;simp at h;omega
 have hA:=λo=>b.below ((J4 a.heap.size a).alloc Y8 o) g;have r:=λo=>f.below ((J4 a.heap.size a).alloc Y8 o) g;have z0:=λo=>hA o 0 _ rfl;have z1:=λo=>hA o 1 _ rfl;have z2:=λo=>hA o 2 _ rfl;have z3:=λo=>hA o 3 _ rfl;have y0:=λo=>r o 0;have y1:=λo=>r o 1;have y2:=λo=>r o 2;have y3:=λo=>r o 3;have x0:=b 0 _ rfl;have x1:=b 1 _ rfl;have x2:=b 2 _ rfl;have x3:=b 3 _ rfl;have f0:=f 0;have f1:=f 1;have f2:=f 2;have f3:=f 3;cases hn:MB l
 ·have k:=i (.inl hn);clear i p;go_wp2;have n:=E5.fill (B:=w.heap.size) [.bool false,vE,vO,vE] [] [.bool false,vE,vO,vE] [] 0 b rfl rfl;have d:Bw w (fill a w.heap.size 0 [.bool false,vE,vO,vE]):=Ya Y8 _ 0 C;have m:=d.size;refine o7 (v:=.tuple #[.agg #[.bool false,vE,vO,vE],.bool false]) (by exact Y_ results321 _ _ w.heap.size _ _ _ rfl rfl (n.below P6 (by rw[qh];exact g)) underlying201 rfl Y0) rfl ⟨k.out,by exact d.alloc m _⟩
 cases ok
 ·have k:=i (.inr rfl);clear i p;go_wp2;have n:=E5.fill (B:=w.heap.size) [.bool false,vE,vO,vE] [] [.bool false,vE,vO,vE] [] 0 b rfl rfl;have d:Bw w (fill a w.heap.size 0 [.bool false,vE,vO,vE]):=Ya Y8 _ 0 C;have m:=d.size;refine o7 (v:=.tuple #[.agg #[.bool false,vE,vO,vE],.bool false]) (by exact Y_ results321 _ _ w.heap.size _ _ _ rfl rfl (n.below P6 (by rw[qh];exact g)) underlying201 rfl Y0) rfl ⟨k.out,by exact d.alloc m _⟩
 have k:=p hn rfl;clear i p;go_wp2;have n:=E5.fill (B:=w.heap.size) [.bool (Cj l),vS (Y2 (O1 (Y1 l))),vI c,vS t] [] [.bool false,vE,vO,vE] [] 0 b rfl rfl;have d:Bw w (fill a w.heap.size 0 [.bool (Cj l),vS (Y2 (O1 (Y1 l))),vI c,vS t]):=Ya Y8 _ 0 C;have m:=d.size;refine o7 (v:=.tuple #[.agg #[.bool (Cj l),vS (Y2 (O1 (Y1 l))),vI c,vS t],.bool true]) (by exact Y_ results321 _ _ w.heap.size _ _ _ rfl rfl (n.below P6 (by rw[qh];exact g)) underlying201 rfl Y0) rfl ⟨k.out,by exact d.alloc m _⟩
end Go.Proofs.YtbgdfcmeheaiiaaGreatDoor
namespace Go.Proofs.YtbgdfcmeheaiiaaGreatDoor
open Proofs.Tryz Go.RowKit
variable{w w':World}{B e g n size:Nat}{xs:List Value}{ss:List (List UInt8)}
theorem Pv{v:Value}(h:w.ownsRow B e size v n xs)(c:Bw w w'):w'.ownsRow B e size v n xs:=by
 refine⟨h.1,?_⟩;rcases h.2 with h0|⟨g,d,cur,hv,b,a,r⟩
 ·exact .inl h0
 refine .inr ⟨g,d,cur,hv,b,?_,r⟩;rw[c.block g (h.lt g (by rw[hv];rfl)).2];exact a
theorem UK{m a:Nat}(h:w.ownsRow B e size (.slice (some ⟨g,0,none⟩) m a) n xs):n<=a:=by
 rcases h.2 with⟨h0,_⟩|⟨g',cap,cur,hv,_,_,hc,_⟩
 ·cases h0
 cases hv;exact hc
def Gi(w:World)(g o:Nat)(ss:List (List UInt8)):Prop:=g<w.heap.size/\∀i,i<ss.length->w.cell? ⟨g,o+i,none⟩=some (.string (Y2 (ss.getD i [])))
theorem Xq{o:Nat}(h:Gi w g o ss)(a:Bw w w'):Gi w' g o ss:=
 ⟨G9 h.1 a.size,λi b=>by rw[a.cell (by exact h.1)];exact h.2 i b⟩
theorem g_{u:World}{vs:List Value}(h:E5 u B vs)(ws:List Value)(hl:ws.length=vs.length):∀i,i<ws.length->(u.cell? ⟨B,0+i,none⟩).isSome=true:=λi hi=>by
 rw[l7,h i _ (D9 O0)];rfl
theorem P_(vs:List Value):∀{u:World}(j:Nat)(p:Addr),p.block≠B->(fill u B j vs).cell? p=u.cell? p:=by
 induction vs with
 | nil=>intro u j p _;rfl
 | cons v vs ih=>intro u j p h;exact(ih (j+1) p h).trans (Qa _ _ _ _ (λe=>h (by rw[<- e])))
def DK(l:List UInt8)(c:Int)(t:BY):Prop:=∀c' t',0<=c'->c'<=7->l=Ob c' t'->c=c'/\t=t'
def a1V(l:List UInt8)(e:Ending):Prop:=∃(c:Int)(t:BY),e=.returned (.agg #[.int .i64 c,.string t])/\DK l c t/\t.size<=1048576
theorem Vs(l:List UInt8)(w:World)(a:l.length<=1048700)(K:Nat)(h1:1<=K)(h2:K<=10):
 Calls prog 148 #[.string (Y2 l),.int .i64 K] w λe w'=>(∃g b,e=.returned (.tuple #[.slice (some ⟨g,0,none⟩) K b,.string (Y2 (d_ l K))])/\w.heap.size<=g/\qc w' g (H_ l K))/\Below w.heap.size w w':=
 a2x K h1 h2 (Y2 l) w (by rw[Y4];exact a)
theorem c152(l:List UInt8)(w:World)(hs:l.length<=16000):
 Calls prog 152 #[.string (Y2 l)] w λe w'=>a1V l e/\Below w.heap.size w w':=by
 have y:Below w.heap.size w (w.alloc (.cells #[vO,vE] 71)):=P6;have hr:=H8 l
 go_in
 go_wp2_with fail
 refine(Vs l _ O0 1 O0 O0).mono ?_;rintro e b⟨⟨g,cp,rfl,k,a⟩,o⟩;have c0:b.cell? (aA g 0)=some (vS (Y2 (O1 l))):=a.2 0 (by simp[H_]);have hg1:=a.1;have i:Below (w.heap.size+1) (w.alloc (.cells #[vO,vE] 71)) b:=Tq o;have hg2:w.heap.size<g:=by have h:=k;simp at h;omega
 clear o a k
 go_wp2_with fail
 refine(QZ (Y2 (O1 l)) _ (by rw[Y4];omega)).mono ?_;rintro e w2⟨rfl,n⟩;rw[Q9];have f:=i.trans (n.mono (by have h:=i.size;simp at h;omega));clear n
 go_wp2_with fail
 refine(a0y (Y2 (Y1 l)) _ (by rw[Y4];omega)).mono ?_;rintro e s⟨⟨t,rfl,u,j⟩,m⟩;have d:=f.trans (m.mono (by have h:=f.size;simp at h;omega));clear m;have x:=y.trans (d.mono O0);rw[Y4]at u;have z:Hid (a1V l (.returned (.agg #[vI (n29 (O1 l)),vS (Y2 t)]))):=⟨_,_,rfl,λc' c h0 h7 e=>by
  obtain⟨e1,p⟩:=Wv c h0;rw[<- e]at e1 p;refine⟨by rw[e1];exact CG h0 O0,?_⟩;rw[j c.data.toList (by rw[Q9];exact p)];rfl,by rw[Y4];omega⟩
 clear j;obtain⟨⟨r,q⟩,y0,y1⟩:=rz2 d;go_wp2;have F:=cu s w.heap.size 0 (vI (n29 (O1 l))) (vS (Y2 t)) _ _ r q;simp only[l7]at F;refine o7 (v:=.agg #[vI (n29 (O1 l)),vS (Y2 t)]) (by simp[results,results152,go_sem,F.1,F.2]) rfl ⟨z.out,(x.setCell O4 _).setCell O4 _⟩
theorem a2A(w:World)(x y z q:Value)(t:TypeId):∀j u,[x,y,z,q][j]?=some u->(w.alloc (.cells #[x,y,z,q] t)).cell? ((⟨w.heap.size,0,none⟩:Addr).add j)=some u:=by
 intro j u h
 match j,h with
 | 0,h=>simp at h;subst h;simp[Addr.add]
 | 1,h=>simp at h;subst h;simp[Addr.add]
 | 2,h=>simp at h;subst h;simp[Addr.add]
 | 3,h=>simp at h;subst h;simp[Addr.add]
theorem GY(a:g=w.heap.size)(x y z q:Value)(t:TypeId):∀j u,[x,y,z,q][j]?=some u->(w.alloc (.cells #[x,y,z,q] t)).cell? ((⟨g,0,none⟩:Addr).add j)=some u:=by
 subst a;exact a2A w x y z q t
theorem EG(is:List L4)(x:L4):jI (is++[x])=jI is++[.bool x.has,.string x.nm,.int .i64 x.cd,.string x.tx]:=by simp[jI]
def dP(ss:List (List UInt8))(k:Nat)(xs:List L4):Prop:=xs.length=k/\∀i,i<k->Lm (ss.getD i []) (xs.getD i l_) true/\(xs.getD i l_).le 1048576
theorem lM{k:Nat}{xs:List L4}{x:L4}(h:dP ss k xs)(hr:Lm (ss.getD k []) x true)(hx:x.le 1048576):dP ss (k+1) (xs++[x]):=by
 obtain⟨h1,h2⟩:=h;refine⟨by simp[h1],λi hi=>?_⟩;rcases P7 i k with a|a
 ·have e:(xs++[x]).getD i l_=xs.getD i l_:=by
   simp only[Fj];rw[R_ O0]
  rw[e];exact h2 i a
 obtain rfl:i=k:=O0;have e:(xs++[x]).getD i l_=x:=by
  simp only[Fj];rw[rf O0,h1];simp
 rw[e];exact⟨hr,hx⟩
theorem KG{xs:List L4}(h:dP ss ss.length xs):Ul ss xs true/\∀i,(xs.getD i l_).le 1048576:=by
 refine⟨YH h.1 λi a=>(h.2 i a).1,λi=>?_⟩;rcases P7 i ss.length with a|a
 ·exact(h.2 i a).2
 have:xs.getD i l_=l_:=by
  simp only[Fj];rw[Mc (by have:=h.1;omega)];rfl
 rw[this];exact⟨I4 _,I4 _⟩
def xY(w w':World)(ss:List (List UInt8))(e:Ending):Prop:=∃(xs:List L4)(ok:Bool)(ao:OA)(c:Nat),e=.returned (.tuple #[.slice ao xs.length c,.bool ok])/\Ul ss xs ok/\(∀i,(xs.getD i l_).le 1048576)/\xs.length<=ss.length/\Qg w' w.heap.size ao xs
theorem a3Z(C o Q:Nat)(ss:List (List UInt8))(w:World)(A:Oc w)(hc:Gi w C o ss)(y:∀i,i<ss.length->(ss.getD i []).length<=16000)(hl:ss.length<=16001):
 Calls prog 278 #[.slice (some ⟨C,o,none⟩) ss.length Q] w λe w'=>xY w w' ss e/\Bw w w':=by
 obtain⟨D,B,H,F,E⟩:=info_parts iL;have V:=U0 hc;have U:=U0 A;have R:=U0 y;have O:=hc.1;clear hc y A
 go_in
 go_wp2;go_loopw[4,11] (λv i wr=>∃(k:Nat)(xs:List L4),k<=ss.length/\i=.int .i64 k/\wr.ownsRow w.heap.size 201 4 v k (jI xs)/\Hid (dP ss k xs)/\Below w.heap.size w wr) (λ_ i _=>ss.length-(RowKit.intOf i).toNat);exact⟨0,[],I4 _,rfl,⟨rfl,.inl ⟨rfl,rfl⟩⟩,⟨rfl,λi B=>O0⟩,J4 _ _⟩;obtain⟨k,xs,hk,rfl,g,ha,b⟩:=hrel;by_cases l:k<ss.length
 ·have hcell:=(b.cell (by exact O)).trans (V.out.2 k l);have hr:=R.out k l;have J:=H9 U.out b;have p:Hid (∀x,Lm (ss.getD k []) x false->Ul ss [] false):=λx h=>oI l h [];have n:Hid (∀x:L4,Lm (ss.getD k []) x true->x.le 1048576->dP ss (k+1) (xs++[x])):=λx h1 h2=>lM ha.out h1 h2;have hz0':=b.size;generalize ss.getD k []=t at*
  go_wp2_with fail
  refine(a3D t _ hr (H9 J ?drw)).mono ?_
  case drw=>first|exact J4 _ _|exact(J4 _ _).drew|exact(J4 _ _).drew.drew
  rintro e r⟨⟨x,ok,rfl,d,hx⟩,m⟩;have q:Hid (Bw wr r):=by first|exact m|exact((J4 _ _).drew).trans m
  have z:=Pv g q.out;have hz1':=q.out.size;have f:=P5 b q.out;clear m g;unfold L4.v;cases ok
  ·have S:Hid (∀u,xY w u ss (.returned (.tuple #[vN,.bool false]))):=λu=>⟨[],false,none,0,rfl,p.out x d,λi=>⟨I4 _,I4 _⟩,I4 _,.inl rfl,.inl rfl⟩;clear p n d;go_wp2;go_ret2;exact⟨S.out _,f.alloc f.size _⟩
  have a:=U0 (n.out x d hx);clear p n d
  go_wp2_with(at_builtin;refine wpList_append_own _ rfl _ _ 69 rfl w.heap.size 201 D (.agg #[.bool false,.string ⟨#[]⟩,.int .i64 0,.string ⟨#[]⟩]) 4 48 underlying69 B H F E rfl J6 _ _ _ rfl ((z.alloc _).alloc _) ⟨r.heap.size+1,0,none⟩ 1 1 [_,_,_,_] rfl rfl (GY O4 _ _ _ _ _) (by intro u s;simp at s;rcases s with rfl|rfl|rfl|rfl<;>rfl) (by unfold maxLen;omega) O0 X7 ?_;intro v' w2 I N _)
  go_roundw
  ·have P:=((f.alloc f.size _).alloc X7 _).grown N X7 (λj L=>(z.lt j L).1);refine⟨k+1,xs++[x],O0,by go_num,?_,a,P⟩;rw[EG];exact I
  exact P9
 have a:Hid (Ul ss xs true/\(∀i,(xs.getD i l_).le 1048576)/\xs.length=ss.length):=by
  obtain rfl:k=ss.length:=O0;exact⟨(KG ha.out).1,(KG ha.out).2,ha.out.1⟩
 obtain rfl:k=ss.length:=O0;obtain⟨ao,c,hv,K⟩:=YK g a.out.2.2.symm;subst hv;go_wp2;go_ret2;exact⟨⟨xs,true,ao,c,by rw[a.out.2.2];rfl,a.out.1,a.out.2.1,by rw[a.out.2.2];exact J9 _,K⟩,b⟩
end Go.Proofs.YtbgdfcmeheaiiaaGreatDoor
namespace Go.Proofs.YtbgdfcmeheaiiaaGreatDoor.T
open Proofs.Tryz Go.RowKit
variable{w wr:World}{e:TypeId}{g k n:Nat}{xs:List Value}{fs gs:List F2}{nm:BY}{t:Value}
theorem qA{b:Nat}{w':World}{base:Nat}{size:Nat}{v:Value}(h:w.ownsRow base e size v n xs)(f:But b w w')(c:v.ownBlock≠some b):w'.ownsRow base e size v n xs:=by
 refine⟨h.1,?_⟩;rcases h.2 with h2|⟨g,i,cur,hv,d,a,r⟩
 ·exact .inl h2
 refine .inr ⟨g,i,cur,hv,d,?_,r⟩;rw[f.block g (Xf a) (λe=>c (by rw[hv,e];rfl))];exact a
theorem ZN{B:Nat}{v:Value}(h:w.ownsRow B e 2 v n xs):∃ao c,v=.slice ao n c:=by
 rcases h.2 with⟨hv,h0⟩|⟨g,cap,cur,hv,_⟩
 ·exact⟨none,0,by rw[hv,h0]⟩
 exact⟨_,_,hv⟩
theorem a2f(w:World)(x y:Value)(t:TypeId):∀j u,[x,y][j]?=some u->(w.alloc (.cells #[x,y] t)).cell? ((⟨w.heap.size,0,none⟩:Addr).add j)=some u:=by
 intro j u h
 match j,h with
 | 0,h=>simp at h;subst h;simp[Addr.add]
 | 1,h=>simp at h;subst h;simp[Addr.add]
theorem a1d(w:World)(x y:Value)(t:TypeId):∀j u,[x,y][j]?=some u->(w.alloc (.cells #[x,y] t)).drew.cell? ((⟨w.heap.size,0,none⟩:Addr).add j)=some u:=λj u h=>a2f w x y t j u h
theorem aj(h:k<fs.length):fs.take (k+1)=fs.take k++[fs.getD k P8]:=by
 rw[Bz h];simp[List.getD,D9 h]
def without(fs:List F2)(nm:BY):List F2:=fs.filter λx=>!(x.nm.toList==nm.toList)
theorem ZF(h:k<fs.length)(hx:((fs.getD k P8).nm.toList==nm.toList)=true):without (fs.take (k+1)) nm=without (fs.take k) nm:=by
 unfold without;rw[aj h,Ou];generalize fs.getD k P8=x at*;simp[hx]
theorem WE(h:k<fs.length)(hx:((fs.getD k P8).nm.toList==nm.toList)=false):without (fs.take (k+1)) nm=without (fs.take k) nm++[fs.getD k P8]:=by
 unfold without;rw[aj h,Ou];generalize fs.getD k P8=x at*;simp[hx]
theorem Jw(fs:List F2)(nm:BY):(without fs nm).length<=fs.length:=IJ _ _
structure Tv(w wr:World)(t:Value)(v:Value)(gs:List F2):Prop where
 bel:Bw w wr
 ht:wr.heap[w.heap.size]?=some (.cells #[t] 46 (0,0))
 hr:wr.heap[w.heap.size+1]?=some (.cells #[.slice none 0 0] 46 (0,0))
 ho:wr.heap[w.heap.size+1+1]?=some (.cells #[v] 46 (0,0))
 own:Vk wr (w.heap.size+3) v gs
theorem Ic(a:g=w.heap.size)(o:Obj):(w.alloc o).heap[g]?=some o:=by
 subst a;exact Array.getElem?_push_size
def strOf:Value->Nat | .string s=>s.size|_=>0
theorem alloc_old(a:g<w.heap.size)(o:Obj):(w.alloc o).heap[g]?=w.heap[g]?:=Lr w o g a
theorem Tv.start(w:World)(t:Value):Tv w (((w.alloc (.cells #[t] 46)).alloc (.cells #[.slice none 0 0] 46)).alloc (.cells #[.slice none 0 0] 46)) t (.slice none 0 0) []:=by
 refine⟨((P6.alloc O4 _).alloc X7 _),?_,?_,?_,⟨rfl,.inl ⟨rfl,rfl⟩⟩⟩
 ·rw[alloc_old X7,alloc_old O4];exact Ic rfl _
 ·rw[alloc_old O4];exact Ic O4 _
 exact Ic O4 _
theorem Tv.sz{v:Value}(h:Tv w wr t v gs):w.heap.size+3<=wr.heap.size:=Xf h.ho
theorem Tv.cells{v:Value}(h:Tv w wr t v gs):wr.cell? ⟨w.heap.size,0,none⟩=some t/\wr.cell? ⟨w.heap.size+1,0,none⟩=some (.slice none 0 0)/\wr.cell? ⟨w.heap.size+1+1,0,none⟩=some v/\wr.frozen? ⟨w.heap.size+1,0,none⟩=false/\wr.frozen? ⟨w.heap.size+1+1,0,none⟩=false:=
 ⟨by rw[Lib.cell_of_heap h.ht];rfl,by rw[Lib.cell_of_heap h.hr];rfl,by rw[Lib.cell_of_heap h.ho];rfl,Lib.frozen_of_heap h.hr 0,Lib.frozen_of_heap h.ho 0⟩
theorem Tv.app{a:World}{v v':Value}{x:F2}{o:Obj}(h:Tv w wr t v gs)(ho:a.ownsRow (w.heap.size+3) 166 2 v' (gs.length+1) (J3 gs++[.string x.nm,.string x.tx]))(f:(wr.alloc o).drew.grownBy a v.ownBlock):
 Tv w (a.setCell ⟨w.heap.size+1+1,0,none⟩ v') t v' (gs++[x])/\a.cell? ⟨w.heap.size+1+1,0,none⟩=some v/\a.frozen? ⟨w.heap.size+1+1,0,none⟩=false:=by
 have hz:=h.sz;have hd:(wr.alloc o).drew.heap.size=wr.heap.size+1:=by show(wr.alloc o).heap.size=_;simp
 have key:∀k,k<w.heap.size+3->a.heap[k]?=wr.heap[k]?:=λk d=>by
  rw[f.block k (by rw[hd];omega) (λe=>by have:=(h.own.lt k e.symm).1;omega)];show(wr.alloc o).heap[k]?=_;exact alloc_old O0 _
 have g:=((h.bel.alloc O0 _).drew).grown f (by rw[hd];omega) (λk d=>by have:=(h.own.lt k d).1;omega);have c:=(key _ O0).trans h.ho;have hz2:w.heap.size+3<=a.heap.size:=Xf c;refine⟨⟨g.setCell X7 _,?_,?_,?_,?_⟩,by rw[Lib.cell_of_heap c];rfl,Lib.frozen_of_heap c 0⟩
 ·rw[vz _ _ _ _ X7];exact(key _ O0).trans h.ht
 ·rw[vz _ _ _ _ O4];exact(key _ O0).trans h.hr
 ·exact heap_setCell_same a (w.heap.size+1+1) 0 _ 46 v' c
 have hl:(gs++[x]).length=gs.length+1:=O4;show(a.setCell ⟨w.heap.size+1+1,0,none⟩ v').ownsRow (w.heap.size+3) 166 2 v' (gs++[x]).length (J3 (gs++[x]));rw[hl,Ld];refine qA (b:=w.heap.size+1+1) ho ((But.refl _ _).setCell _ _) (λe=>by have:=(ho.lt _ e).1;omega)
theorem c210(a:OA)(g:Nat)(fs:List F2)(nm:BY)(w:World)(hl:fs.length<=40)(y:U5 w a fs):
 Calls prog 210 #[.agg #[.slice a fs.length g],.string nm] w λe w'=>(∃v,e=.returned (.agg #[v])/\Vk w' (w.heap.size+3) v (without fs nm))/\Bw w w':=by
 obtain⟨b,off,hc⟩:=o_ y;have R:=U0 hc;have O:=Tv.start w (vL a fs.length g);obtain⟨D,L,H,F,E⟩:=info_parts Vp;clear hc y
 go_in
 go_wp2;go_loopw[6] (λi wr=>∃(k:Nat)(v:Value),k<=fs.length/\i=.int .i64 k/\Hid (Tv w wr (.slice a fs.length g) v (without (fs.take k) nm))) (λi _=>fs.length-(RowKit.intOf i).toNat);exact⟨0,_,I4 _,rfl,O⟩;obtain⟨k,v,hk,rfl,c⟩:=hrel;obtain⟨ct,cr,co,fr,N⟩:=c.out.cells;have hzr:=c.out.sz;by_cases f:k<fs.length
 ·obtain⟨ha,t,l⟩:=Zb R.out f;subst ha;have g0:=(c.out.bel.cell (by exact t)).trans (l k f).1;have g1:=(c.out.bel.cell (by exact t)).trans (l k f).2;have q:Hid (((fs.getD k P8).nm.toList==nm.toList)=true->without (fs.take (k+1)) nm=without (fs.take k) nm):=ZF f;have o:Hid (((fs.getD k P8).nm.toList==nm.toList)=false->without (fs.take (k+1)) nm=without (fs.take k) nm++[fs.getD k P8]):=WE f;have hgl:(without (fs.take k) nm).length<=k:=Q8 (Jw _ _) (List.length_take_le _ _);generalize fs.getD k P8=x at*;generalize without (fs.take k) nm=gs at*;clear l;cases hq:(x.nm.toList==nm.toList)
  ·have A:=o.out hq;have P:=U0 A;have K:=c.out.own;obtain⟨n,m,hv,_⟩:=K.form;subst hv;clear q o A;have co':=past (p:=⟨w.heap.size+1+1,0,none⟩) (by show w.heap.size+1+1<wr.heap.size;omega) co;have J:wr.ownsRow (w.heap.size+3) 166 2 (vL n gs.length m) gs.length (J3 gs):=c.out.own
   go_wp2_with fail
   go_region_law (refine gu rfl (.tmp 24) (.tmp 30) 44 rfl (w.heap.size+3) 166 D (.agg #[vE,vE]) 2 32 underlying44 L H F E rfl J6 _ _ _ rfl ((J.alloc _).drew) ⟨wr.heap.size,0,none⟩ 1 1 [_,_] rfl rfl (a1d _ _ _ _) (by intro u r;simp at r;rcases r with rfl|rfl<;>rfl) (by unfold maxLen;omega) O0 X7 ?_;intro v' C j s;have h:=c.out.app (x:=x) j s;have S:Hid (Tv w (C.setCell ⟨w.heap.size+1+1,0,none⟩ v') (vL (some ⟨b,off,none⟩) fs.length g) v' (gs++[x])):=h.1;have d1:=h.2.1;have d2:=h.2.2;obtain⟨ao,cpo,I⟩:=ZN j;subst I;clear h j s)
   all_goals
    go_wp2;go_roundw;exact⟨k+1,_,O0,by go_num,by rw[P.out];exact S.out⟩;exact P9
  have Q:=U0 (q.out hq);clear q o;go_wp2;go_roundw;exact⟨k+1,v,O0,by go_num,by rw[Q.out];exact c.out⟩;exact P9
 have B:Hid (without (fs.take k) nm=without fs nm):=by rw[p_ O0];rfl
 have d:Hid (Tv w wr (vL a fs.length g) v (without fs nm)):=by rw[<- B.out];exact c.out
 obtain⟨n,m,hv,_⟩:=d.out.own.form;subst hv;obtain⟨ct,cr,co,fr,N⟩:=d.out.cells;have hB:=d.out.bel;have z:=U0 d.out.own;clear c d B;go_wp2;refine o7 (v:=.agg #[vL n (without fs nm).length m]) (by simp[results,results210,go_sem,cr]) rfl ⟨⟨_,rfl,?_⟩,?_⟩
 ·exact qA (b:=w.heap.size+1) z.out ((But.refl _ _).setCell _ _) (λe=>by have:=(z.out.lt _ e).1;omega)
 exact hB.setCell O4 _
