import Derived.Test.YtchjpjmcnhjbcaaGreatDooreR2
import Derived.Test.YtchjpjmcnhjbcaaGreatDooreX5
set_option linter.unusedVariables false
set_option maxHeartbeats 8000000
set_option maxRecDepth 100000
namespace Go.Proofs.YtchjpjmcnhjbcaaGreatDoor
open Proofs.Tryz Go.RowKit
theorem Qs (u:World) (B j:Nat) (a b x0 x1:Value) (h0:u.cell? ⟨B,j,none⟩=some x0) (h1:u.cell? ⟨B,j+1,none⟩=some x1):
 ((u.setCell ⟨B,j,none⟩ a).setCell ⟨B,j+1,none⟩ b).cell? ⟨B,j,none⟩=some a/\((u.setCell ⟨B,j,none⟩ a).setCell ⟨B,j+1,none⟩ b).cell? ⟨B,j+1,none⟩=some b:=by
 have c:(u.setCell (aA B j) a).cell? (aA B (j+1))=some x1:=by rw [Na _ _ _ _ (EJ O0)];exact h1
 refine ⟨?_,jg _ _ _ c⟩;rw [Na _ _ _ _ (EJ O0)];exact jg _ _ _ h0
def TS (l:List UInt8) (e:Ending):Prop:=∃ (c:Int) (t:BY) (ok:Bool),e=.returned (.tuple #[.agg #[.int .i64 c,.string t],.bool ok])/\MC l c t ok/\t.size<=1048576
theorem a0I (l:List UInt8) (w:World) (hs:l.length<=16000) (q:Dc w):
 Calls prog 248 #[.string (J3 l)] w fun e w'=>TS l e/\Bw w w':=by
 have o:Bw w (w.alloc (.cells #[vO,vE] 103)):=P6;have hr:=D8 l;go_enter func248,ntmps248
 go_wp2_with fail
 refine (yL l _ O0 (x9 q o)).mono ?_;rintro e p ⟨⟨y,rfl⟩,n⟩;have m:Below (w.heap.size+1) (w.alloc (.cells #[vO,vE] 103)) p:=KD n;clear n
 go_wp2_with fail
 refine (wX 7 (J3 (O1 l)) _ (by rw [I5];omega) O0 O0).mono ?_;rintro e w2 ⟨rfl,rfl⟩
 go_wp2_with fail
 refine (xO (Y1 l) _ O0).mono ?_;rintro e i ⟨⟨t,ok,rfl,d⟩,r⟩;have k:=m.trans (r.mono (by have h:=m.size;simp at h;omega));have j:=o.trans (k.mono O0);rw [L9];have a:(Ih 7 (O1 l)=false\/ok=false)->Hid (TS l (.returned (.tuple #[.agg #[vO,vE],.bool false]))):=fun h=>⟨0,⟨#[]⟩,false,rfl,JS d h _ _,o6⟩;have c:Ih 7 (O1 l)=true->ok=true->Hid (TS l (.returned (.tuple #[.agg #[vI (xH 7 (O1 l)),vS (J3 t)],.bool true]))):=by
  intro h1 h2;subst h2;refine ⟨_,_,true,rfl,AL d h1,?_⟩;have:=Xm t;rw [<- d.1 rfl] at this;rw [I5];omega
 clear d;obtain ⟨⟨g,f⟩,y0,y1⟩:=rz2 k;cases hn:Ih 7 (O1 l)
 · have b:=a (.inl hn);clear a c;go_wp2;have F:=Qs i w.heap.size 0 vO vE _ _ g f;simp only [L8] at F;refine Y6 (v:=.tuple #[.agg #[vO,vE],.bool false]) (by simp [results,results248,go_sem,F.1,F.2]) rfl ⟨b.out,(j.setCell X4 _).setCell X4 _⟩
 · cases ok
   · have b:=a (.inr rfl);clear a c;go_wp2;have F:=Qs i w.heap.size 0 vO vE _ _ g f;simp only [L8] at F;refine Y6 (v:=.tuple #[.agg #[vO,vE],.bool false]) (by simp [results,results248,go_sem,F.1,F.2]) rfl ⟨b.out,(j.setCell X4 _).setCell X4 _⟩
   · have b:=c hn rfl;clear a c;go_wp2;have F:=Qs i w.heap.size 0 (vI (xH 7 (O1 l))) (vS (J3 t)) _ _ g f;simp only [L8] at F;refine Y6 (v:=.tuple #[.agg #[vI (xH 7 (O1 l)),vS (J3 t)],.bool true]) (by simp [results,results248,go_sem,F.1,F.2]) rfl ⟨b.out,(j.setCell X4 _).setCell X4 _⟩
theorem has_eq (l:List UInt8):((J3 (O1 l)).toList==[104,97,115])=Cj l:=by
 rw [ByteArray.toList_eq,L9];unfold Cj;by_cases h:O1 l=[104,97,115]
 · rw [h];rfl
 · rw [S9 h];exact p_.2 h
theorem lQ (l:List UInt8):((J3 (O1 l)).toList==[97,115,107])=decide (O1 l=[97,115,107]):=by
 rw [ByteArray.toList_eq,L9];by_cases h:O1 l=[97,115,107]
 · rw [h];rfl
 · rw [S9 h];exact p_.2 h
theorem a3e (l:List UInt8) (w:World):
 Calls prog 294 #[.string (J3 (O1 l))] w fun e w'=>e=.returned (.tuple #[.bool (Cj l),.bool (aB l)])/\Bw w w':=by
 have h1:=has_eq l;have h2:=lQ l;have b:aB l=(Cj l || decide (O1 l=[97,115,107])):=rfl;generalize decide (O1 l=[97,115,107])=a at*;generalize Cj l=h at*;generalize aB l=i at*;generalize J3 (O1 l)=s at*;subst b;go_enter func294,ntmps294;cases h <;> cases a
 all_goals
  go_wp2
  try go_region
 all_goals try go_wp2
 all_goals go_ret2
 all_goals
  refine ⟨by first | rfl | simp [h1,h2],?_⟩
  first | exact Z4 _ _ | exact (Z4 _ _).drew | exact (Z4 _ _).drew.drew
theorem qG {w u:World} {vs:List Value} {t:TypeId} (a:Below (w.heap.size+1) (w.alloc (.cells vs.toArray t)) u):D5 u w.heap.size vs/\X6 u w.heap.size:=
 ⟨(Z7 w vs t).below a O0,(Qa w _ t).below a O0⟩
section
variable {P:Program}
theorem U_ {fn:Func} {p q:Tmp} {ty:TypeId} (h:fn.results=#[.cell p ty,.tmp q]) (tmps:Array Value) (w:World) (B:Nat) (cs:List Value) (v:Value) (d:TypeDesc)
 (f:tmps.getD p undef=.pointer (some ⟨B,0,none⟩)) (c:tmps.getD q undef=v) (hc:D5 w B cs)
 (a:P.underlying ty=some d) (hd:(match d with | .struct _ | .array _ _=>true | _=>false)=true) (g:(P.info? ty).map (·.size)=some cs.length):
 (results fn tmps).run P w=.ok (.tuple #[.agg cs.toArray,v]) w:=by
 have e:tmps[p]?.getD undef=.pointer (some (aA B 0)):=by simpa using f
 have b:tmps[q]?.getD undef=v:=by simpa using c
 simp [results,h,e,b,asAddr,Ef w B ty cs d hc a hd g]
end
def L4.v (x:L4):Value:=.agg #[.bool x.has,.string x.nm,.int .i64 x.cd,.string x.tx]
def CS (l:List UInt8) (e:Ending):Prop:=∃ (x:L4) (ok:Bool),e=.returned (.tuple #[x.v,.bool ok])/\dm l x ok/\x.le 1048576
theorem a3o (l:List UInt8) (w:World) (hs:l.length<=16000) (q:Dc w):
 Calls prog 278 #[.string (J3 l)] w fun e w'=>CS l e/\Bw w w':=by
 have j:Bw w (w.alloc (.cells #[.bool false,vE,vO,vE] 185)):=P6;have hr:=D8 l;have hr2:=D8 (Y1 l);go_enter func278,ntmps278
 go_wp2_with fail
 refine (yL l _ O0 (x9 q j)).mono ?_;rintro e I ⟨⟨y,rfl⟩,H⟩;have z:Below (w.heap.size+1) (w.alloc (.cells #[.bool false,vE,vO,vE] 185)) I:=KD H;clear H;have L:=x9 q (j.trans (z.mono O0))
 go_wp2_with fail
 refine (yL (Y1 l) _ O0 L).mono ?_;rintro e w2 ⟨⟨y',rfl⟩,F⟩;have x:=z.trans (F.mono (by have h:=z.size;simp at h;omega));have hm2:=x9 q (j.trans (x.mono O0));clear F
 go_wp2_with fail
 refine (a3e l _).mono ?_;rintro e w3 ⟨rfl,E⟩;have u:=x.trans (E.mono (by have h:=x.size;simp at h;omega));have K:=x9 q (j.trans (u.mono O0));clear E
 go_wp2_with fail
 refine (a0I (Y1 (Y1 l)) _ O0 K).mono ?_;rintro e a ⟨⟨c,t,ok,rfl,A,J⟩,D⟩;have s:=u.trans (D.mono (by have h:=u.size;simp at h;omega));clear D;have C:=j.trans (s.mono O0);have i:(aB l=false\/ok=false)->Hid (CS l (.returned (.tuple #[.agg #[.bool false,vE,vO,vE],.bool false]))):=fun h=>⟨E_,false,rfl,ZN A h _,o6,o6⟩;have p:aB l=true->ok=true->Hid (CS l (.returned (.tuple #[.agg #[.bool (Cj l),vS (J3 (O1 (Y1 l))),vI c,vS t],.bool true]))):=by
  intro h1 h2;subst h2;exact ⟨⟨Cj l,J3 (O1 (Y1 l)),c,t⟩,true,rfl,NH h1 A,by show (J3 (O1 (Y1 l))).size<=1048576;rw [I5];omega,J⟩
 clear A;obtain ⟨b,f⟩:=qG (vs:=[.bool false,vE,vO,vE]) s;have g:w.heap.size<a.heap.size:=by have h:=s.size;simp at h;omega
 have hA:=fun o=>b.below ((Z4 a.heap.size a).alloc H8 o) g;have r:=fun o=>f.below ((Z4 a.heap.size a).alloc H8 o) g;have z0:=fun o=>hA o 0 _ rfl;have z1:=fun o=>hA o 1 _ rfl;have z2:=fun o=>hA o 2 _ rfl;have z3:=fun o=>hA o 3 _ rfl;have y0:=fun o=>r o 0;have y1:=fun o=>r o 1;have y2:=fun o=>r o 2;have y3:=fun o=>r o 3;have x0:=b 0 _ rfl;have x1:=b 1 _ rfl;have x2:=b 2 _ rfl;have x3:=b 3 _ rfl;have f0:=f 0;have f1:=f 1;have f2:=f 2;have f3:=f 3;cases hn:aB l
 · have k:=i (.inl hn);clear i p;go_wp2;have n:=D5.fill (B:=w.heap.size) [.bool false,vE,vO,vE] [] [.bool false,vE,vO,vE] [] 0 b rfl rfl;have d:Bw w (fill a w.heap.size 0 [.bool false,vE,vO,vE]):=x_ H8 _ 0 C;have m:=d.size;refine Y6 (v:=.tuple #[.agg #[.bool false,vE,vO,vE],.bool false]) (by exact U_ results278 _ _ w.heap.size _ _ _ rfl rfl (n.below P6 (by rw [Vf];exact g)) underlying185 rfl Y2) rfl ⟨k.out,by exact d.alloc m _⟩
 · cases ok
   · have k:=i (.inr rfl);clear i p;go_wp2;have n:=D5.fill (B:=w.heap.size) [.bool false,vE,vO,vE] [] [.bool false,vE,vO,vE] [] 0 b rfl rfl;have d:Bw w (fill a w.heap.size 0 [.bool false,vE,vO,vE]):=x_ H8 _ 0 C;have m:=d.size;refine Y6 (v:=.tuple #[.agg #[.bool false,vE,vO,vE],.bool false]) (by exact U_ results278 _ _ w.heap.size _ _ _ rfl rfl (n.below P6 (by rw [Vf];exact g)) underlying185 rfl Y2) rfl ⟨k.out,by exact d.alloc m _⟩
   · have k:=p hn rfl;clear i p;go_wp2;have n:=D5.fill (B:=w.heap.size) [.bool (Cj l),vS (J3 (O1 (Y1 l))),vI c,vS t] [] [.bool false,vE,vO,vE] [] 0 b rfl rfl;have d:Bw w (fill a w.heap.size 0 [.bool (Cj l),vS (J3 (O1 (Y1 l))),vI c,vS t]):=x_ H8 _ 0 C;have m:=d.size;refine Y6 (v:=.tuple #[.agg #[.bool (Cj l),vS (J3 (O1 (Y1 l))),vI c,vS t],.bool true]) (by exact U_ results278 _ _ w.heap.size _ _ _ rfl rfl (n.below P6 (by rw [Vf];exact g)) underlying185 rfl Y2) rfl ⟨k.out,by exact d.alloc m _⟩
end Go.Proofs.YtchjpjmcnhjbcaaGreatDoor
namespace Go.Proofs.YtchjpjmcnhjbcaaGreatDoor
open Proofs.Tryz Go.RowKit
variable {w w':World} {B e g n size:Nat} {xs:List Value}
theorem Du {v:Value} (h:w.ownsRow B e size v n xs) (c:Bw w w'):w'.ownsRow B e size v n xs:=by
 refine ⟨h.1,?_⟩;rcases h.2 with h0 | ⟨g,d,cur,hv,b,a,r⟩
 · exact .inl h0
 · refine .inr ⟨g,d,cur,hv,b,?_,r⟩;rw [c.block g (h.lt g (by rw [hv];rfl)).2];exact a
theorem fK {m a:Nat} (h:w.ownsRow B e size (.slice (some ⟨g,0,none⟩) m a) n xs):n<=a:=by
 rcases h.2 with ⟨h0,_⟩ | ⟨g',cap,cur,hv,_,_,hc,_⟩
 · cases h0
 · cases hv;exact hc
def Ai (w:World) (g o:Nat) (ss:List (List UInt8)):Prop:=g<w.heap.size/\∀ i,i<ss.length->w.cell? ⟨g,o+i,none⟩=some (.string (J3 (ss.getD i [])))
theorem oq {o:Nat} {ss:List (List UInt8)} (h:Ai w g o ss) (a:Bw w w'):Ai w' g o ss:=
 ⟨O9 h.1 a.size,fun i b=>by rw [a.cell (by exact h.1)];exact h.2 i b⟩
theorem V9 {u:World} {vs:List Value} (h:D5 u B vs) (a:List Value) (hl:a.length=vs.length):∀ i,i<a.length->(u.cell? ⟨B,0+i,none⟩).isSome=true:=fun i hi=>by
 rw [L8,h i _ (Z8 O0)];rfl
theorem M_ (vs:List Value):∀ {u:World} (j:Nat) (p:Addr),p.block≠B->(fill u B j vs).cell? p=u.cell? p:=by
 induction vs with
 | nil=>intro u j p _;rfl
 | cons v vs ih=>intro u j p h;exact (ih (j+1) p h).trans (Na _ _ _ _ (fun e=>h (by rw [<- e])))
def OJ (l:List UInt8) (c:Int) (t:BY):Prop:=∀ c' t',0<=c'->c'<=7->l=Za c' t'->c=c'/\t=t'
def a0v (l:List UInt8) (e:Ending):Prop:=∃ (c:Int) (t:BY),e=.returned (.agg #[.int .i64 c,.string t])/\OJ l c t/\t.size<=1048576
theorem Es (l:List UInt8) (w:World) (a:l.length<=1048700) (K:Nat) (h1:1<=K) (h2:K<=10):
 Calls prog 137 #[.string (J3 l),.int .i64 K] w fun e w'=>(∃ g b,e=.returned (.tuple #[.slice (some ⟨g,0,none⟩) K b,.string (J3 (Q9 l K))])/\w.heap.size<=g/\Xb w' g (A_ l K))/\Below w.heap.size w w':=
 a0M K h1 h2 (J3 l) w (by rw [I5];exact a)
theorem c141 (l:List UInt8) (w:World) (hs:l.length<=16000):
 Calls prog 141 #[.string (J3 l)] w fun e w'=>a0v l e/\Below w.heap.size w w':=by
 have y:Below w.heap.size w (w.alloc (.cells #[vO,vE] 103)):=P6;have hr:=D8 l;go_enter func141,ntmps141
 go_wp2_with fail
 refine (Es l _ O0 1 O0 O0).mono ?_;rintro e b ⟨⟨g,cp,rfl,k,a⟩,o⟩;have c0:b.cell? (aA g 0)=some (vS (J3 (O1 l))):=a.2 0 (by simp [A_]);have hg1:=a.1;have i:Below (w.heap.size+1) (w.alloc (.cells #[vO,vE] 103)) b:=KD o;have hg2:w.heap.size<g:=by have h:=k;simp at h;omega
 clear o a k
 go_wp2_with fail
 refine (c138 (J3 (O1 l)) _ (by rw [I5];omega)).mono ?_;rintro e w2 ⟨rfl,n⟩;rw [L9];have f:=i.trans (n.mono (by have h:=i.size;simp at h;omega));clear n
 go_wp2_with fail
 refine (c139 (J3 (Y1 l)) _ (by rw [I5];omega)).mono ?_;rintro e s ⟨⟨t,rfl,u,j⟩,m⟩;have d:=f.trans (m.mono (by have h:=f.size;simp at h;omega));clear m;have x:=y.trans (d.mono O0);rw [I5] at u;have z:Hid (a0v l (.returned (.agg #[vI (n29 (O1 l)),vS (J3 t)]))):=⟨_,_,rfl,fun c' c h0 h7 e=>by
  obtain ⟨e1,p⟩:=Hu c h0;rw [<- e] at e1 p;refine ⟨by rw [e1];exact KG h0 O0,?_⟩;rw [j c.data.toList (by rw [L9];exact p)];rfl,by rw [I5];omega⟩
 clear j;obtain ⟨⟨r,q⟩,y0,y1⟩:=rz2 d;go_wp2;have F:=Qs s w.heap.size 0 (vI (n29 (O1 l))) (vS (J3 t)) _ _ r q;simp only [L8] at F;refine Y6 (v:=.agg #[vI (n29 (O1 l)),vS (J3 t)]) (by simp [results,results141,go_sem,F.1,F.2]) rfl ⟨z.out,(x.setCell X4 _).setCell X4 _⟩
