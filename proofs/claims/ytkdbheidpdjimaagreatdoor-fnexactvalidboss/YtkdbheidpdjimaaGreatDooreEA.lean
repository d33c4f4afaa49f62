import Derived.Test.YtkdbheidpdjimaaGreatDooreR4
import Derived.Test.YtkdbheidpdjimaaGreatDoorvG
set_option linter.unusedVariables false
set_option maxHeartbeats 8000000
set_option maxRecDepth 100000
namespace Go.Proofs.YtkdbheidpdjimaaGreatDoor
open Proofs.Tryz Go.RowKit
theorem dH {w u:World} {vs:List Value} {t:TypeId} (a:Below (w.heap.size+1) (w.alloc (.cells vs.toArray t)) u):X4 u w.heap.size vs/\Y5 u w.heap.size:=
 ⟨(I5 w vs t).below a O0,(N8 w _ t).below a O0⟩
section
variable {P:Program}
theorem Ea {fn:Func} {p q:Tmp} {ty:TypeId} (h:fn.results=#[.cell p ty,.tmp q]) (tmps:Array Value) (w:World) (B:Nat) (cs:List Value) (v:Value) (d:TypeDesc)
 (f:tmps.getD p undef=.pointer (some ⟨B,0,none⟩)) (c:tmps.getD q undef=v) (hc:X4 w B cs)
 (a:P.underlying ty=some d) (hd:(match d with | .struct _ | .array _ _=>true | _=>false)=true) (g:(P.info? ty).map (·.size)=some cs.length):
 (results fn tmps).run P w=.ok (.tuple #[.agg cs.toArray,v]) w:=by
 have e:tmps[p]?.getD undef=.pointer (some (aA B 0)):=by simpa using f
 have b:tmps[q]?.getD undef=v:=by simpa using c
 simp [results,h,e,b,asAddr,Vf w B ty cs d hc a hd g]
end
def L4.v (x:L4):Value:=.agg #[.bool x.has,.string x.nm,.int .i64 x.cd,.string x.tx]
def TQ (l:List UInt8) (e:Ending):Prop:=∃ (x:L4) (ok:Bool),e=.returned (.tuple #[x.v,.bool ok])/\Zl l x ok/\x.le 1048576
theorem a1C (l:List UInt8) (w:World) (hs:l.length<=16000) (q:Tc w):
 Calls prog 249 #[.string (Y2 l)] w fun e w'=>TQ l e/\Bw w w':=by
 have j:Bw w (w.alloc (.cells #[.bool false,vE,vO,vE] 167)):=o7;have hr:=X7 l;have hr2:=X7 (Y1 l);go_enter func249,ntmps249
 go_wp2_with fail
 refine (YJ l _ O0 (G9 q j)).mono ?_;rintro e I ⟨⟨y,rfl⟩,H⟩;have z:Below (w.heap.size+1) (w.alloc (.cells #[.bool false,vE,vO,vE] 167)) I:=lF H;clear H;have L:=G9 q (j.trans (z.mono O0))
 go_wp2_with fail
 refine (YJ (Y1 l) _ O0 L).mono ?_;rintro e w2 ⟨⟨y',rfl⟩,F⟩;have x:=z.trans (F.mono (by have h:=z.size;simp at h;omega));have hm2:=G9 q (j.trans (x.mono O0));clear F
 go_wp2_with fail
 refine (a1m l _).mono ?_;rintro e w3 ⟨rfl,E⟩;have u:=x.trans (E.mono (by have h:=x.size;simp at h;omega));have K:=G9 q (j.trans (u.mono O0));clear E
 go_wp2_with fail
 refine (a0A (Y1 (Y1 l)) _ O0 K).mono ?_;rintro e a ⟨⟨c,t,ok,rfl,A,J⟩,D⟩;have s:=u.trans (D.mono (by have h:=u.size;simp at h;omega));clear D;have C:=j.trans (s.mono O0);have i:(ZA l=false\/ok=false)->Hid (TQ l (.returned (.tuple #[.agg #[.bool false,vE,vO,vE],.bool false]))):=fun h=>⟨O_,false,rfl,QL A h _,O6,O6⟩;have p:ZA l=true->ok=true->Hid (TQ l (.returned (.tuple #[.agg #[.bool (Gj l),vS (Y2 (O1 (Y1 l))),vI c,vS t],.bool true]))):=by
  intro h1 h2;subst h2;exact ⟨⟨Gj l,Y2 (O1 (Y1 l)),c,t⟩,true,rfl,QI h1 A,by show (Y2 (O1 (Y1 l))).size<=1048576;rw [J5];omega,J⟩
 clear A;obtain ⟨b,f⟩:=dH (vs:=[.bool false,vE,vO,vE]) s;have g:w.heap.size<a.heap.size:=by have h:=s.size;simp at h;omega
 have hA:=fun o=>b.below ((Z4 a.heap.size a).alloc x9 o) g;have r:=fun o=>f.below ((Z4 a.heap.size a).alloc x9 o) g;have z0:=fun o=>hA o 0 _ rfl;have z1:=fun o=>hA o 1 _ rfl;have z2:=fun o=>hA o 2 _ rfl;have z3:=fun o=>hA o 3 _ rfl;have y0:=fun o=>r o 0;have y1:=fun o=>r o 1;have y2:=fun o=>r o 2;have y3:=fun o=>r o 3;have x0:=b 0 _ rfl;have x1:=b 1 _ rfl;have x2:=b 2 _ rfl;have x3:=b 3 _ rfl;have f0:=f 0;have f1:=f 1;have f2:=f 2;have f3:=f 3;cases hn:ZA l
 · have k:=i (.inl hn);clear i p;go_wp2;have n:=X4.fill (B:=w.heap.size) [.bool false,vE,vO,vE] [] [.bool false,vE,vO,vE] [] 0 b rfl rfl;have d:Bw w (fill a w.heap.size 0 [.bool false,vE,vO,vE]):=E_ x9 _ 0 C;have m:=d.size;refine P7 (v:=.tuple #[.agg #[.bool false,vE,vO,vE],.bool false]) (by exact Ea results249 _ _ w.heap.size _ _ _ rfl rfl (n.below o7 (by rw [mg];exact g)) underlying167 rfl J3) rfl ⟨k.out,by exact d.alloc m _⟩
 · cases ok
   · have k:=i (.inr rfl);clear i p;go_wp2;have n:=X4.fill (B:=w.heap.size) [.bool false,vE,vO,vE] [] [.bool false,vE,vO,vE] [] 0 b rfl rfl;have d:Bw w (fill a w.heap.size 0 [.bool false,vE,vO,vE]):=E_ x9 _ 0 C;have m:=d.size;refine P7 (v:=.tuple #[.agg #[.bool false,vE,vO,vE],.bool false]) (by exact Ea results249 _ _ w.heap.size _ _ _ rfl rfl (n.below o7 (by rw [mg];exact g)) underlying167 rfl J3) rfl ⟨k.out,by exact d.alloc m _⟩
   · have k:=p hn rfl;clear i p;go_wp2;have n:=X4.fill (B:=w.heap.size) [.bool (Gj l),vS (Y2 (O1 (Y1 l))),vI c,vS t] [] [.bool false,vE,vO,vE] [] 0 b rfl rfl;have d:Bw w (fill a w.heap.size 0 [.bool (Gj l),vS (Y2 (O1 (Y1 l))),vI c,vS t]):=E_ x9 _ 0 C;have m:=d.size;refine P7 (v:=.tuple #[.agg #[.bool (Gj l),vS (Y2 (O1 (Y1 l))),vI c,vS t],.bool true]) (by exact Ea results249 _ _ w.heap.size _ _ _ rfl rfl (n.below o7 (by rw [mg];exact g)) underlying167 rfl J3) rfl ⟨k.out,by exact d.alloc m _⟩
end Go.Proofs.YtkdbheidpdjimaaGreatDoor
namespace Go.Proofs.YtkdbheidpdjimaaGreatDoor
open Proofs.Tryz Go.RowKit
variable {b:List (List UInt8)} {f l:List UInt8} {B:Nat} {ok:Bool}
theorem qw {b:UInt8} (h:b∉l) (P:List (List UInt8)) (q:List UInt8):l.foldl (cst b) (P,q)=(P,q++l):=by
 induction l generalizing q with
 | nil=>simp
 | cons c l ih=>
  have hc:c≠b:=fun e=>h (by simp [e]);rw [jw];have:cst b (P,q) c=(P,q++[c]):=by unfold cst;rw [if_neg hc]
  rw [this,ih (fun hm=>h (ug _ hm)),oq];rfl
theorem jD (b:UInt8) (l:List UInt8) (P Q:List (List UInt8)) (q:List UInt8):l.foldl (cst b) (P++Q,q)=(P++(l.foldl (cst b) (Q,q)).1,(l.foldl (cst b) (Q,q)).2):=by
 induction l generalizing Q q with
 | nil=>rfl
 | cons c l ih=>
  rw [jw,jw];by_cases hc:c=b
  · have e1:cst b (P++Q,q) c=(P++(Q++[q]),[]):=by unfold cst;rw [if_pos hc,List.append_assoc]
    have a:cst b (Q,q) c=(Q++[q],[]):=by unfold cst;rw [if_pos hc]
    rw [e1,a,ih]
  · have e1:cst b (P++Q,q) c=(P++Q,q++[c]):=by unfold cst;rw [if_neg hc]
    have a:cst b (Q,q) c=(Q,q++[c]):=by unfold cst;rw [if_neg hc]
    rw [e1,a,ih]
theorem PO {b:UInt8} (h:b∉l):L8 b l=[l]:=by
 unfold L8 D8;rw [qw h];rfl
theorem ZJ {b:UInt8} {a r:List UInt8} (h:b∉a):L8 b (a++b::r)=a::L8 b r:=by
 unfold L8 D8;rw [UD,qw h,jw];have e:cst b ([],[]++a) b=([a]++[],[]):=by unfold cst;rw [if_pos rfl];simp
 rw [e,jD];simp
theorem mZ (b:UInt8) (l:List UInt8):(Lib.index l [b]=-1/\b∉l)\/(∃ i:Nat,Lib.index l [b]=i/\i<l.length/\l=l.take i++b::l.drop (i+1)/\b∉l.take i):=by
 rw [Lib.index_one];have hge:=Lib.indexByte_ge l b;by_cases h:Lib.indexByte l b=-1
 · refine .inl ⟨h,fun hm=>?_⟩;obtain ⟨k,a,e⟩:=Ee hm;exact Lib.indexByte_none h k (by rw [y9 a,e])
 · obtain ⟨o,ho⟩:∃ o:Nat,Lib.indexByte l b=o:=⟨(Lib.indexByte l b).toNat,O0⟩;obtain ⟨h1,h2⟩:=Lib.indexByte_some ho;have hl:o<l.length:=by
    rcases o8 o l.length with h | h
    · exact h
    · rw [Ec h] at h1;cases h1
   refine .inr ⟨o,ho,hl,?_,fun hm=>?_⟩
   · have hx:l[o]=b:=by rw [y9 hl] at h1;exact Q9 h1
     conv=>lhs;rw [<- Gi o l,Xz hl,hx]
   · obtain ⟨k,a,e⟩:=Ee hm;rw [B_] at a;rw [NE] at e;exact h2 k O0 (by rw [y9 O0,e])
theorem mV (b:UInt8) (f:Nat):∀ l:List UInt8,l.length<f->Lib.splitK [b] 0 (Lib.countFrom [b] f l) l=L8 b l/\(L8 b l).length=Lib.countFrom [b] f l+1:=by
 induction f with
 | zero=>intro l h;omega
 | succ f ih=>
  intro l h;rcases mZ b l with ⟨a,c⟩ | ⟨i,a,hl,he,c⟩
  · have hc:Lib.countFrom [b] (f+1) l=0:=by rw [Lib.countFrom,a];rfl
    rw [hc,PO c];exact ⟨rfl,rfl⟩
  · have d:¬ ((i:Int)==-1)=true:=fun e=>by have:=Zn.1 e;omega
    obtain ⟨h1,h2⟩:=ih (l.drop (i+1)) (by rw [Qj];omega);have hc:Lib.countFrom [b] (f+1) l=Lib.countFrom [b] f (l.drop (i+1))+1:=by
     rw [Lib.countFrom,a,A8 d,Nat.add_comm];rfl
    have hcut:L8 b l=l.take i::L8 b (l.drop (i+1)):=by
     conv=>lhs;rw [he]
     exact ZJ c
    rw [hc,hcut];refine ⟨?_,by rw [A_,h2]⟩;rw [Lib.splitK,a,A8 d,<- h1];rfl
theorem c171 (b:UInt8) (s:BY) (w:World) (hs:s.size<=1048700) (hm:Tc w):
 Calls prog 171 #[.string s,.string ⟨#[b]⟩] w fun e w'=>(e=.returned (.slice (some ⟨w.heap.size,0,none⟩) (L8 b s.data.toList).length (L8 b s.data.toList).length)/\Yb w' w.heap.size (L8 b s.data.toList))/\Bw w w':=by
 obtain ⟨_,m,hm⟩:=hm;obtain ⟨h1,h2⟩:=mV b (s.data.toList.length+1) s.data.toList O0;have hd:=lJ ((Lib.splitB_data ⟨#[b]⟩ 0 (Lib.countB s ⟨#[b]⟩) s).trans h1);have hc:Lib.countB s ⟨#[b]⟩+1=(L8 b s.data.toList).length:=h2.symm;refine (Tryz.strings_Split s ⟨#[b]⟩ m w O0 hm (Y9 1)).mono ?_;rintro e w' ⟨rfl,rfl⟩;rw [hd,hc];refine ⟨⟨rfl,I4,fun i a=>?_⟩,o7⟩;simp [a]
def ni (l:List UInt8):Bool:=decide (l.getLastD 0=10)
theorem AA (h:ni l=true):l=l.dropLast++[10]:=by
 unfold ni at h;rw [Fe] at h;rcases qC l with e | ⟨r,c,e⟩
 · subst e;cases h
 · rw [zB] at e;subst e;rw [BI] at h;rw [List.dropLast_concat,h]
theorem YT (l:List UInt8):ni (l++[10])=true:=by unfold ni;rw [List.getLastD_concat];rfl
theorem last_one (s:BY) (h:1<=s.size):s.extract (s.size - 1) s.size=Y2 [s.data.toList.getLastD 0]:=by
 refine qc ?_;rw [ext_list,u_ I4];obtain ⟨r,c,e⟩:∃ r c,s.data.toList=r++[c]:=by
  rcases qC s.data.toList with e | ⟨r,c,e⟩
  · have:s.data.toList.length=s.size:=I4;rw [e] at this;simp at this;omega
  · exact ⟨r,c,by rw [e,zB]⟩
 have hl:s.data.toList.length=s.size:=I4;rw [e] at hl ⊢;rw [N9,Ej] at hl;rw [BI,show s.size - 1=r.length by omega,List.drop_left]
theorem IQ (s:BY):s.extract 0 (s.size - 1)=Y2 s.data.toList.dropLast:=by
 refine qc ?_;rw [ext_list,UC,List.dropLast_eq_take];simp
theorem a1i (s:BY) (w:World) (hs:s.size<=1048700):
 Calls prog 247 #[.string s,.string ⟨#[10]⟩] w fun e w'=>e=.returned (.bool (ni s.data.toList))/\w'=w:=by
 by_cases h:1<=s.size
 · have HX:=last_one s h;have a:((Y2 [s.data.toList.getLastD 0]).toList==[10])=ni s.data.toList:=by
    rw [ByteArray.toList_eq,O9];unfold ni;by_cases hc:s.data.toList.getLastD 0=10
    · rw [hc];rfl
    · rw [P9 hc];exact n_.2 fun e=>hc (bn e).1
   generalize ni s.data.toList=b at*;generalize s.data.toList.getLastD 0=c at*;go_enter func247,ntmps247;go_wp2;go_ret;exact ⟨rfl,rfl⟩
 · have a:ni s.data.toList=false:=by
    have hl:s.data.toList.length=s.size:=I4;have:s.data.toList=[]:=Ya.1 O0;rw [this];rfl
   generalize ni s.data.toList=b at*;subst a;go_enter func247,ntmps247;go_wp2;go_ret;exact ⟨rfl,rfl⟩
def Qx (l:List UInt8):List UInt8:=if ni l=true then l.dropLast else l
theorem c213 (s:BY) (w:World) (a:s.size<=1048700):
 Calls prog 213 #[.string s,.string ⟨#[10]⟩] w fun e w'=>e=.returned (.tuple #[.string (Y2 (Qx s.data.toList)),.bool (ni s.data.toList)])/\w'=w:=by
 have hX:=IQ s;have hP:(ni s.data.toList=true->Y2 (Qx s.data.toList)=Y2 s.data.toList.dropLast/\1<=s.size)/\(ni s.data.toList=false->Y2 (Qx s.data.toList)=s):=by
  unfold Qx;constructor
  · intro h;rw [G8 h];refine ⟨rfl,?_⟩;have e:=AA h;have hl:s.data.toList.length=s.size:=I4;rw [e] at hl;rw [N9,Ej] at hl;omega
  · intro h;rw [A8 (by rw [h];decide)];rfl
 have hc:=a1i s;generalize Y2 (Qx s.data.toList)=p at*;generalize Y2 s.data.toList.dropLast=q at*;generalize ni s.data.toList=b at*;go_enter func213,ntmps213
 go_wp2_with fail
 refine (hc _ a).mono ?_;rintro e w1 ⟨rfl,rfl⟩;cases b
 · have e:=hP.2 rfl;subst e;go_wp2;go_ret2;exact ⟨rfl,rfl⟩
 · obtain ⟨e,h1⟩:=hP.1 rfl;subst e;go_wp2;go_ret2;exact ⟨rfl,rfl⟩
theorem a2j (s:BY) (w:World) (a:s.size<=1048700):
 Calls prog 170 #[.string s,.string ⟨#[10]⟩] w fun e w'=>e=.returned (.tuple #[.string (Y2 (Qx s.data.toList)),.bool (ni s.data.toList)])/\w'=w:=by
 have hc:=c213 s;generalize Y2 (Qx s.data.toList)=p at*;generalize ni s.data.toList=b at*;go_enter func170,ntmps170
 go_wp2_with fail
 refine (hc _ a).mono ?_;rintro e w1 ⟨rfl,rfl⟩;go_wp2;go_ret2;exact ⟨rfl,rfl⟩
def a0P (w w':World) (l:List UInt8) (e:Ending):Prop:=(ni l=false/\e=.returned (.tuple #[.slice none 0 0,.bool false]))\/(ni l=true/\∃ g,e=.returned (.tuple #[.slice (some ⟨g,0,none⟩) (L8 10 l.dropLast).length (L8 10 l.dropLast).length,.bool true])/\w.heap.size<=g/\Yb w' g (L8 10 l.dropLast))
theorem a1v (s:BY) (w:World) (d:s.size<=1048700) (f:Tc w):
 Calls prog 114 #[.string s] w fun e w'=>a0P w w' s.data.toList e/\Bw w w':=by
 have hc:=a2j s;have c:(Y2 (Qx s.data.toList)).size<=1048700:=by
  rw [J5];unfold Qx;split
  · rw [List.length_dropLast];simp;omega
  · simp;omega
 have b:ni s.data.toList=true->Qx s.data.toList=s.data.toList.dropLast:=fun h=>by unfold Qx;rw [if_pos h]
 generalize s.data.toList=l at*;go_enter func114,ntmps114
 go_wp2_with fail
 refine (hc _ d).mono ?_;rintro e w1 ⟨rfl,rfl⟩;cases hb:ni l
 · go_wp2;go_ret2;exact ⟨.inl ⟨hb,rfl⟩,Z4 _ _⟩
 · rw [b hb] at c ⊢;clear hc b
   go_wp2_with fail
   refine (c171 10 (Y2 l.dropLast) _ c f).mono ?_;rintro e w2 ⟨⟨rfl,a⟩,i⟩;rw [O9] at a ⊢;have g:=a;clear a;go_wp2;go_ret2;exact ⟨.inr ⟨hb,_,rfl,Y9 _,g⟩,i⟩
theorem d_ {u:World} {vs:List Value} (h:X4 u B vs) (a:List Value) (hl:a.length=vs.length):∀ i,i<a.length->(u.cell? ⟨B,0+i,none⟩).isSome=true:=fun i hi=>by
 rw [E8,h i _ (y9 O0)];rfl
theorem S_ (vs:List Value):∀ {u:World} (j:Nat) (p:Addr),p.block≠B->(fill u B j vs).cell? p=u.cell? p:=by
 induction vs with
 | nil=>intro u j p _;rfl
 | cons v vs ih=>intro u j p h;exact (ih (j+1) p h).trans (La _ _ _ _ (fun e=>h (by rw [<- e])))
def xK (l:List UInt8) (c:Int) (t:BY):Prop:=∀ c' t',0<=c'->c'<=7->l=Ib c' t'->c=c'/\t=t'
def DZ (l:List UInt8) (e:Ending):Prop:=∃ (c:Int) (t:BY),e=.returned (.agg #[.int .i64 c,.string t])/\xK l c t/\t.size<=1048576
theorem Vz (l:List UInt8) (w:World) (a:l.length<=1048700) (K:Nat) (h1:1<=K) (h2:K<=10):
 Calls prog 96 #[.string (Y2 l),.int .i64 K] w fun e w'=>(∃ g b,e=.returned (.tuple #[.slice (some ⟨g,0,none⟩) K b,.string (Y2 (S9 l K))])/\w.heap.size<=g/\Yb w' g (w_ l K))/\Below w.heap.size w w':=
 a1Z K h1 h2 (Y2 l) w (by rw [J5];exact a)
theorem aZ (l:List UInt8) (w:World) (hs:l.length<=16000):
 Calls prog 100 #[.string (Y2 l)] w fun e w'=>DZ l e/\Below w.heap.size w w':=by
 have y:Below w.heap.size w (w.alloc (.cells #[vO,vE] 103)):=o7;have hr:=X7 l;go_enter func100,ntmps100
 go_wp2_with fail
 refine (Vz l _ O0 1 O0 O0).mono ?_;rintro e c ⟨⟨g,cp,rfl,m,a⟩,p⟩;have c0:c.cell? (aA g 0)=some (vS (Y2 (O1 l))):=a.2 0 (by simp [w_]);have hg1:=a.1;have j:Below (w.heap.size+1) (w.alloc (.cells #[vO,vE] 103)) c:=lF p;have hg2:w.heap.size<g:=by have h:=m;simp at h;omega
 clear p a m
 go_wp2_with fail
 refine (c97 (Y2 (O1 l)) _ (by rw [J5];omega)).mono ?_;rintro e w2 ⟨rfl,o⟩;rw [O9];have i:=j.trans (o.mono (by have h:=j.size;simp at h;omega));clear o
 go_wp2_with fail
 refine (c98 (Y2 (Y1 l)) _ (by rw [J5];omega)).mono ?_;rintro e b ⟨⟨t,rfl,u,k⟩,n⟩;have f:=i.trans (n.mono (by have h:=i.size;simp at h;omega));clear n;have x:Below w.heap.size w b:=y.trans (f.mono O0);rw [J5] at u;have z:Hid (DZ l (.returned (.agg #[vI (n29 (O1 l)),vS (Y2 t)]))):=⟨_,_,rfl,fun c' d h0 h7 e=>by
  obtain ⟨e1,q⟩:=Gu d h0;rw [<- e] at e1 q;refine ⟨by rw [e1];exact pG h0 O0,?_⟩;rw [k d.data.toList (by rw [O9];exact q)];rfl,by rw [J5];omega⟩
 clear k;obtain ⟨⟨s,r⟩,y0,y1⟩:=rz2 f;go_wp2;have F:=mr b w.heap.size 0 (vI (n29 (O1 l))) (vS (Y2 t)) _ _ s r;simp only [E8] at F;refine P7 (v:=.agg #[vI (n29 (O1 l)),vS (Y2 t)]) (by simp [results,results100,go_sem,F.1,F.2]) rfl ⟨z.out,(x.setCell I4 _).setCell I4 _⟩
structure p_ where
 kd:Int
 ep:Int
 fn:BY
 ft:BY
 km:M3
 ls:List L4
 cd:Int
 tx:BY
def Ii:p_:=⟨0,0,⟨#[]⟩,⟨#[]⟩,H_,[],0,⟨#[]⟩⟩
def p_.le (x:p_) (B:Nat):Prop:=x.fn.size<=B/\x.ft.size<=B/\x.km.le B/\(x.ls.length<=B/\∀ i,(x.ls.getD i O_).le B)/\x.tx.size<=B
def p_.c (x:p_) (ai:OA) (ci:Nat):List Value:=[.int .i64 x.kd,.int .i64 x.ep,.string x.fn,.string x.ft,.string x.km.nm,.string x.km.tl,.string x.km.ar,.slice ai x.ls.length ci,.int .i64 x.cd,.string x.tx]
theorem p_.lC (x:p_) (b:OA) (a:Nat):∀ v∈x.c b a,v.oneCell'=true:=by simp [p_.c,Value.oneCell']
def r_ (n:Int):p_:=⟨1,n,⟨#[]⟩,⟨#[]⟩,H_,[],0,⟨#[]⟩⟩
def Vb (a b:BY):p_:=⟨2,0,a,b,H_,[],0,⟨#[]⟩⟩
def Xb (a:BY):p_:=⟨3,0,a,⟨#[]⟩,H_,[],0,⟨#[]⟩⟩
def Ag (m:M3) (ls:List L4) (c:Int) (t:BY):p_:=⟨4,0,⟨#[]⟩,⟨#[]⟩,m,ls,c,t⟩
def U_:p_:=⟨5,0,⟨#[]⟩,⟨#[]⟩,H_,[],0,⟨#[]⟩⟩
def U8 (x:p_):Prop:=(∃ n,(1<=n/\n<=200)/\x=r_ n)\/(∃ a b,(o6 a.data.toList=true/\b.size<=300)/\x=Vb a b)\/(∃ a,o6 a.data.toList=true/\x=Xb a)\/(∃ m ls c t,(Ff m=true/\jg ls/\vr c t.data.toList=true)/\x=Ag m ls c t)\/x=U_
def Ld (ls:List (List UInt8)):List UInt8:=ls.flatMap (·++[10])
theorem Sv (ls:List L4):G_ ls=Ld (ls.map Mc):=by
 unfold G_ Ld
 induction ls with
 | nil=>rfl
 | cons x r ih=>simp only [Pg,Cm,ih,vV]
theorem JF (ls:List (List UInt8)) (h:∀ l∈ls,(10:UInt8)∉l):L8 10 (Ld ls)=ls++[[]]:=by
 have:∀ (ls P:List (List UInt8)),(∀ l∈ls,(10:UInt8)∉l)->(Ld ls).foldl (cst 10) (P,[])=(P++ls,[]):=by
  intro ls
  induction ls with
  | nil=>intro P _;simp [Ld]
  | cons a r ih=>
   intro P h;have e:Ld (a::r)=(a++[10])++Ld r:=rfl;rw [e,UD,ZF _ _ (h a I4),ih _ (fun l hl=>h l (by simp [hl]))];simp
 unfold L8 D8;rw [this ls [] h];rfl
theorem sQ (l:List UInt8):Ld (L8 10 l)=l++[10]:=by
 have:∀ n,∀ l:List UInt8,l.length<=n->Ld (L8 10 l)=l++[10]:=by
  intro n
  induction n with
  | zero=>
   intro l hl;obtain rfl:l=[]:=Ya.1 O0;rfl
  | succ n ih=>
   intro l hl;by_cases hm:(10:UInt8)∈l
   · obtain ⟨p,r,rfl,a⟩:=List.eq_append_cons_of_mem hm;rw [ZJ a];have:=ih r (by simp at hl;omega);have e:Ld (p::L8 10 r)=(p++[10])++Ld (L8 10 r):=rfl;rw [e,this];simp
   · rw [PO hm];simp [Ld]
 exact this l.length l x9
theorem FO (l:List UInt8):L8 10 (l++[10])=L8 10 l++[[]]:=by
 unfold L8;rw [Qn];simp [cst]
def Le:List UInt8:=[101,112,111,99,104]
def Jh:List UInt8:=[102,105,108,101]
def Lh:List UInt8:=[100,114,111,112]
def jk:List UInt8:=[114,97,110]
def Ug:List UInt8:=[99,108,101,97,114]
def Hf:List UInt8:=[103,97,118,101]
def f_ (x:p_):List (List UInt8):=if x.kd=1 then [Le++32::dec x.ep] else if x.kd=2 then [Jh++32::(x.fn.data.toList++32::X5 x.ft.data.toList)] else if x.kd=3 then [Lh++32::x.fn.data.toList] else if x.kd=4 then (jk++32::Bd x.km)::(x.ls.map Mc++[Hf++32::Ib x.cd x.tx]) else [Ug]
def F_ (x:p_):List UInt8:=Ld (f_ x)
theorem WG {x:p_} (h:U8 x):∀ l∈f_ x,(10:UInt8)∉l:=by
 rcases h with ⟨n,⟨h1,h2⟩,rfl⟩ | ⟨a,b,⟨h1,h2⟩,rfl⟩ | ⟨a,h1,rfl⟩ | ⟨m,ls,c,t,⟨h1,h2,j⟩,rfl⟩ | rfl
 · intro l hl;obtain rfl:l=Le++32::dec n:=by simpa [f_,r_] using hl
   simp only [jh,ve,Qm];exact ⟨O6,O6,(qF O0).2⟩
 · intro l hl;obtain rfl:l=Jh++32::(a.data.toList++32::X5 b.data.toList):=by simpa [f_,Vb] using hl
   simp only [jh,ve,Qm];exact ⟨O6,O6,(R_ h1).2,O6,aj _⟩
 · intro l hl;obtain rfl:l=Lh++32::a.data.toList:=by simpa [f_,Xb] using hl
   simp only [jh,ve,Qm];exact ⟨O6,O6,(R_ h1).2⟩
 · intro l hl;obtain ⟨n1,n2,_⟩:=zh h1;have g:l=jk++32::Bd m\/l∈ls.map Mc\/l=Hf++32::Ib c t:=by simpa [f_,Ag] using hl
   rcases g with rfl | hl | rfl
   · rw [Ic];simp only [jh,ve,Qm];exact ⟨O6,O6,(R_ n1).2,O6,(R_ n2).2,O6,aj _⟩
   · obtain ⟨y,f,rfl⟩:=Jl.1 hl;obtain ⟨i,d,e⟩:=Ee f;have:=h2.2 i d;rw [List.getD,y9 d,e] at this;exact rM this
   · rw [Il];simp only [jh,ve,Qm];exact ⟨O6,O6,(qF (Qg j).1).2,O6,aj _⟩
 · intro l hl;obtain rfl:l=Ug:=by simpa [f_,U_] using hl
   decide
theorem qJ {x:p_} (h:U8 x):(F_ x).length<=16000/\1<=(F_ x).length:=by
 rcases h with ⟨n,⟨h1,h2⟩,rfl⟩ | ⟨a,b,⟨h1,h2⟩,rfl⟩ | ⟨a,h1,rfl⟩ | ⟨m,ls,c,t,⟨h1,h2,d⟩,rfl⟩ | rfl
 · have a:=Xu n O0 O0;have e:F_ (r_ n)=Le++32::dec n++[10]:=by simp [F_,f_,r_,Ld]
   rw [e];simp [Le];omega
 · have q:=Pq b.data.toList;have k:=Ij h1;have z:b.data.toList.length=b.size:=I4;have e:F_ (Vb a b)=Jh++32::(a.data.toList++32::X5 b.data.toList)++[10]:=by simp [F_,f_,Vb,Ld]
   rw [e];simp only [N9,A_,Xe,Jh];omega
 · have k:=Ij h1;have e:F_ (Xb a)=Lh++32::a.data.toList++[10]:=by simp [F_,f_,Xb,Ld]
   rw [e];simp only [N9,A_,Xe,Lh];omega
 · have a:=ND h1;have q:=Pq m.ar.data.toList;have l:=Wv h2;have r:=rF (Qg d).1 (Qg d).2 (PD d);have e:F_ (Ag m ls c t)=jk++32::Bd m++[10]++G_ ls++(Hf++32::Ib c t++[10]):=by
    rw [Sv];simp [F_,f_,Ag,Ld]
   rw [e,Ic];simp only [N9,A_,Xe,jk,Hf];omega
 · decide
def aC (L:List (List UInt8)) (x:p_) (ok:Bool):Prop:=(∀ y,U8 y->L=f_ y->ok=true/\x=y)/\(ok=true->U8 x->L=f_ x)
theorem oD {L:List (List UInt8)} (h:∀ y,U8 y->L≠f_ y) (x:p_):aC L x false:=⟨fun y a e=>absurd e (h y a),fun h=>by cases h⟩
def jB (x:p_):List UInt8:=if x.kd=1 then Le else if x.kd=2 then Jh else if x.kd=3 then Lh else if x.kd=4 then jk else Ug
theorem He {y:p_} (d:U8 y) {f:List UInt8} {b:List (List UInt8)} (e:f::b=f_ y):O1 f=jB y/\(y.kd≠4->b=[]):=by
 rcases d with ⟨n,_,rfl⟩ | ⟨a,c,_,rfl⟩ | ⟨a,_,rfl⟩ | ⟨m,ls,c,t,_,rfl⟩ | rfl
 · obtain ⟨rfl,rfl⟩:=bn e;exact ⟨(Y7 O6).1,fun _=>rfl⟩
 · obtain ⟨rfl,rfl⟩:=bn e;exact ⟨(Y7 O6).1,fun _=>rfl⟩
 · obtain ⟨rfl,rfl⟩:=bn e;exact ⟨(Y7 O6).1,fun _=>rfl⟩
 · obtain ⟨rfl,rfl⟩:=bn e;exact ⟨(Y7 O6).1,fun h=>absurd rfl h⟩
 · obtain ⟨rfl,rfl⟩:=bn e;exact ⟨(Xi O6).1,fun _=>rfl⟩
theorem VG {y:p_} (b:U8 y):y.kd=1\/y.kd=2\/y.kd=3\/y.kd=4\/y.kd=5:=by
 rcases b with ⟨n,_,rfl⟩ | ⟨a,c,_,rfl⟩ | ⟨a,_,rfl⟩ | ⟨m,ls,c,t,_,rfl⟩ | rfl
 · exact .inl rfl
 · exact .inr (.inl rfl)
 · exact .inr (.inr (.inl rfl))
 · exact .inr (.inr (.inr (.inl rfl)))
 · exact .inr (.inr (.inr (.inr rfl)))
theorem Fh {y:p_} (a:U8 y) {w:List UInt8} {k:Int} (b:k=1\/k=2\/k=3\/k=4\/k=5) (h:w=jB y) (hw:w=jB ⟨k,0,⟨#[]⟩,⟨#[]⟩,H_,[],0,⟨#[]⟩⟩):y.kd=k:=by
 have c:=VG a;have e:jB y=jB ⟨k,0,⟨#[]⟩,⟨#[]⟩,H_,[],0,⟨#[]⟩⟩:=by rw [<- h,hw]
 clear a h hw;unfold jB at e;rcases b with rfl | rfl | rfl | rfl | rfl <;> rcases c with h | h | h | h | h <;> rw [h] at e <;> first | exact h | (exfalso;revert e;decide)
theorem Js {y:p_} (d:U8 y) (b:y.kd=1):∃ n,(1<=n/\n<=200)/\y=r_ n:=by
 rcases d with h | ⟨a,c,_,rfl⟩ | ⟨a,_,rfl⟩ | ⟨m,ls,c,t,_,rfl⟩ | rfl
 · exact h
 · cases b
 · cases b
 · cases b
 · cases b
theorem Yw {y:p_} (e:U8 y) (d:y.kd=2):∃ a b,(o6 a.data.toList=true/\b.size<=300)/\y=Vb a b:=by
 rcases e with ⟨n,_,rfl⟩ | h | ⟨a,_,rfl⟩ | ⟨m,ls,c,t,_,rfl⟩ | rfl
 · cases d
 · exact h
 · cases d
 · cases d
 · cases d
theorem jr {y:p_} (d:U8 y) (b:y.kd=3):∃ a,o6 a.data.toList=true/\y=Xb a:=by
 rcases d with ⟨n,_,rfl⟩ | ⟨a,c,_,rfl⟩ | h | ⟨m,ls,c,t,_,rfl⟩ | rfl
 · cases b
 · cases b
 · exact h
 · cases b
 · cases b
theorem zA {y:p_} (d:U8 y) (b:y.kd=4):∃ m ls c t,(Ff m=true/\jg ls/\vr c t.data.toList=true)/\y=Ag m ls c t:=by
 rcases d with ⟨n,_,rfl⟩ | ⟨a,c,_,rfl⟩ | ⟨a,_,rfl⟩ | h | rfl
 · cases b
 · cases b
 · cases b
 · exact h
 · cases b
theorem ay {y:p_} (d:U8 y) (b:y.kd=5):y=U_:=by
 rcases d with ⟨n,_,rfl⟩ | ⟨a,c,_,rfl⟩ | ⟨a,_,rfl⟩ | ⟨m,ls,c,t,_,rfl⟩ | h
 · cases b
 · cases b
 · cases b
 · cases b
 · exact h
theorem dO (hw:O1 f≠jk) (d:b≠[]) (x:p_):aC (f::b) x false:=by
 refine oD (fun y c e=>?_) x;obtain ⟨h1,h2⟩:=He c e;by_cases a:y.kd=4
 · apply hw;rw [h1];unfold jB;rw [if_neg O0,if_neg O0,if_neg O0,if_pos a]
 · exact d (h2 a)
theorem mQ (h1:O1 f≠jk) (h2:O1 f≠Le) (g:O1 f≠Jh) (d:O1 f≠Lh) (c:O1 f≠Ug) (x:p_):aC (f::b) x false:=by
 refine oD (fun y a e=>?_) x;obtain ⟨hw,_⟩:=He a e;unfold jB at hw;split at hw
 · exact h2 hw
 · split at hw
   · exact g hw
   · split at hw
     · exact d hw
     · split at hw
       · exact h1 hw
       · exact c hw
theorem OM (hw:O1 f=Le):aC [f] (r_ (GH 200 (Y1 f))) (Qh 200 (Y1 f)):=by
 constructor
 · intro y c e;obtain ⟨h1,_⟩:=He c e;obtain ⟨n,hn,rfl⟩:=Js c (Fh c (.inl rfl) h1 (by rw [hw];rfl));have i:f=Le++32::dec n:=(bn e).1;have hr:Y1 f=dec n:=by rw [i];exact (Y7 O6).2
   obtain ⟨a,b⟩:=Ez (M:=200) (n:=n) O0 O0;rw [hr,a,b];exact ⟨rfl,rfl⟩
 · intro h _;have d:=(ZK h).1;have g:Y1 f≠[]:=by rw [d];exact gI _
   show [f]=[Le++32::dec (GH 200 (Y1 f))];rw [<- d,<- hw,<- qf g]
theorem oP {t:List UInt8} (hw:O1 f=Jh) (g:QY (Y1 (Y1 f)) t ok):aC [f] (Vb (Y2 (O1 (Y1 f))) (Y2 t)) ok:=by
 constructor
 · intro y d e;obtain ⟨h1,_⟩:=He d e;obtain ⟨a,b,j,rfl⟩:=Yw d (Fh d (.inr (.inl rfl)) h1 (by rw [hw];rfl));have k:f=Jh++32::(a.data.toList++32::X5 b.data.toList):=(bn e).1;have hr:Y1 f=a.data.toList++32::X5 b.data.toList:=by rw [k];exact (Y7 O6).2
   obtain ⟨i,c⟩:=Y7 (r:=X5 b.data.toList) (R_ j.1).1;rw [<- hr] at i c;cases ok
   · exact absurd c (g.2 rfl _)
   · have:t=b.data.toList:=Xm ((g.1 rfl).symm.trans c);rw [i,this];exact ⟨rfl,rfl⟩
 · intro h _;have q:=g.1 h;have h2:Y1 (Y1 f)≠[]:=by rw [q];exact IG _
   have h1:Y1 f≠[]:=fun h=>by rw [h] at h2;exact h2 rfl
   show [f]=[Jh++32::(O1 (Y1 f)++32::X5 t)];rw [<- q,<- qf h2,<- hw,<- qf h1]
theorem aQ (hw:O1 f=Lh):aC [f] (Xb (Y2 (Y1 f))) true:=by
 constructor
 · intro y b e;obtain ⟨h1,_⟩:=He b e;obtain ⟨a,c,rfl⟩:=jr b (Fh b (.inr (.inr (.inl rfl))) h1 (by rw [hw];rfl));have i:f=Lh++32::a.data.toList:=(bn e).1;have hr:Y1 f=a.data.toList:=by rw [i];exact (Y7 O6).2
   rw [hr];exact ⟨rfl,rfl⟩
 · intro _ hx;obtain ⟨a,c,e⟩:=jr hx rfl;have g:Y2 (Y1 f)=a:=P5 p_.fn e;have d:Y1 f≠[]:=fun h=>by
    rw [<- g,O9,h] at c;cases c
   show [f]=[Lh++32::Y1 f];rw [<- hw,<- qf d]
theorem WL (hw:O1 f=Ug):aC [f] U_ (decide ((32:UInt8)∉f)):=by
 constructor
 · intro y a e;obtain ⟨h1,_⟩:=He a e;have:=ay a (Fh a (.inr (.inr (.inr (.inr rfl)))) h1 (by rw [hw];rfl));subst this;have b:f=Ug:=(bn e).1;subst b;exact ⟨O6,rfl⟩
 · intro h _;rw [Fe] at h;have:=(Xi h).1;show [f]=[Ug];rw [<- this,hw]
theorem jP {y:p_} (a:U8 y) (hw:O1 f=jk) (e:f::b=f_ y):∃ m ls c t,(Ff m=true/\jg ls/\vr c t.data.toList=true)/\y=Ag m ls c t/\Y1 f=Bd m/\b=ls.map Mc++[Hf++32::Ib c t]:=by
 obtain ⟨h1,_⟩:=He a e;obtain ⟨m,ls,c,t,d,rfl⟩:=zA a (Fh a (.inr (.inr (.inr (.inl rfl)))) h1 (by rw [hw];rfl));obtain ⟨e1,g⟩:=bn e;refine ⟨m,ls,c,t,d,rfl,?_,g⟩;rw [e1];exact (Y7 O6).2
theorem MP (hw:O1 f=jk) (x:p_):aC [f] x false:=by
 refine oD (fun y a e=>?_) x;obtain ⟨m,ls,c,t,_,_,_,b⟩:=jP a hw e;have:=P5 List.length b;simp at this
theorem kU {g:List UInt8} {m:M3} {ls:List L4} {c:Int} {t:BY} {o1 o2 o3:Bool} (hw:O1 f=jk) (hm:zx (Y1 f) m o1) (hl:Em b ls o2) (hr:vC (Y1 g) c t o3):
 (o1=true->o2=true->O1 g=Hf->o3=true->aC (f::(b++[g])) (Ag m ls c t) true)/\(¬ (o1=true/\o2=true/\O1 g=Hf/\o3=true)->∀ x,aC (f::(b++[g])) x false):=by
 have u:∀ y,U8 y->f::(b++[g])=f_ y->(o1=true/\o2=true/\O1 g=Hf/\o3=true)/\Ag m ls c t=y:=by
  intro y a e;obtain ⟨m',h,n,d,⟨k,j,i⟩,rfl,e1,F⟩:=jP a hw e;obtain ⟨E,l⟩:=List.append_inj' F rfl;have l:=(bn l).1;obtain ⟨p,o⟩:=Y7 (r:=Ib n d) (show (32:UInt8)∉Hf by decide);rw [<- l] at p o;obtain ⟨K,a2⟩:=hl.1 h j.2 E;obtain ⟨J,I,H⟩:=hr.1 n d (Qg i).1 (Qg i).2 o;have ho:o1=true:=by
   cases o1
   · exact absurd e1 (hm.2 rfl m' k)
   · rfl
  have A:m=m':=nC (hm.1 ho).1 k (by rw [<- (hm.1 ho).2,e1]);exact ⟨⟨ho,K,p,J⟩,by rw [A,a2,I,H]⟩
 constructor
 · intro h1 h2 C B;refine ⟨fun y a e=>⟨rfl,(u y a e).2⟩,fun _ hx=>?_⟩;obtain ⟨m',h,n,d,⟨k,j,i⟩,e⟩:=zA hx rfl;have D:ls=h:=P5 p_.ls e;have q:=hr.2 B;have w:Y1 g≠[]:=by rw [q];exact fD _ _
   have s:=(hm.1 h1).2;have v:Y1 f≠[]:=by rw [s];exact bK m
   show f::(b++[g])=(jk++32::Bd m)::(ls.map Mc++[Hf++32::Ib c t]);rw [<- s,<- q,<- hw,<- C,<- qf w,<- qf v,<- hl.2 h2 (by rw [D];exact j.2)]
 · intro z x;exact oD (fun y a e=>z (u y a e).1) x
def RE (l:List UInt8) (x:p_) (ok:Bool):Prop:=(ok=true->U8 x/\F_ x=l)/\(ok=false->∀ y,U8 y->F_ y≠l)
theorem zG {y:p_} (b:U8 y) (e:F_ y=l):ni l=true/\L8 10 l.dropLast=f_ y:=by
 have hc:=JF (f_ y) (WG b);have d:f_ y≠[]:=by unfold f_;(repeat' split) <;> simp
 have a:ni l=true:=by
  rw [<- e];unfold F_;rcases qC (f_ y) with h | ⟨r,c,h⟩
  · exact absurd h d
  · rw [h,zB];have:Ld (r++[c])=(Ld r++c)++[10]:=by simp [Ld]
    rw [this];exact YT _
 refine ⟨a,?_⟩;have h2:=AA a;have:L8 10 (l.dropLast++[10])=f_ y++[[]]:=by rw [<- h2,<- e];exact hc
 rw [FO] at this;exact List.append_cancel_right this
theorem yX (h:ni l=false) (x:p_):RE l x false:=by
 refine ⟨(fun h=>by cases h),fun _ y a e=>?_⟩;rw [(zG a e).1] at h;cases h
theorem NV (h:16000<l.length) (x:p_):RE l x false:=by
 refine ⟨(fun h=>by cases h),fun _ y a e=>?_⟩;have:=qJ a;rw [e] at this;omega
theorem tV {x:p_} (h:ni l=true) (hr:aC (L8 10 l.dropLast) x ok):(ok=true->U8 x->RE l x true)/\(¬ (ok=true/\U8 x)->∀ z,RE l z false):=by
 constructor
 · intro h1 h2;refine ⟨fun _=>⟨h2,?_⟩,(fun h=>by cases h)⟩;unfold F_;rw [<- hr.2 h1 h2,sQ];exact (AA h).symm
 · intro d z;refine ⟨(fun h=>by cases h),fun _ y c e=>?_⟩;obtain ⟨a,b⟩:=hr.1 y c (zG c e).2;exact d ⟨a,by rw [b];exact c⟩
