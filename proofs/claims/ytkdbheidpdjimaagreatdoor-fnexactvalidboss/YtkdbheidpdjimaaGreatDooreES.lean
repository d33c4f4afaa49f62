import Derived.Test.YtkdbheidpdjimaaGreatDooreEN
import Derived.Test.YtkdbheidpdjimaaGreatDoortWE
import Derived.Deep.Heap
set_option linter.unusedVariables false
set_option maxHeartbeats 8000000
set_option maxRecDepth 100000
namespace Go.Proofs.YtkdbheidpdjimaaGreatDoor
open Proofs.Tryz Go.RowKit
variable {F l:List UInt8} {c:Int} {t:BY} {a:List (List UInt8)} {u w:World} {B k:Nat} {xs:List L4} {x:L4}
theorem FY (x:p_) (g:x.kd=2) (b:OA) (i:Nat) (w:World) (L:x.le 1048576) (N:I9 w b x.ls):
 Calls prog 101 #[.agg #[.int .i64 2,.int .i64 x.ep,.string x.fn,.string x.ft,.string x.km.nm,.string x.km.tl,.string x.km.ar,.slice b x.ls.length i,.int .i64 x.cd,.string x.tx]] w fun e w'=>aB (U8 x) (F_ x) e/\Bw w w':=by
 obtain ⟨f1,f2,⟨m1,m2,m3⟩,⟨hl,hs⟩,f3⟩:=L;have P:∀ o,Bw w (w.alloc o):=fun o=>o7;go_enter func101,ntmps101
 go_wp2_with fail
 refine (BO 2 x.ep x.cd 0 0 0 x.fn x.ft x.km.nm x.km.tl x.km.ar x.tx x.fn x.ft ⟨#[]⟩ ⟨#[]⟩ ⟨#[]⟩ ⟨#[]⟩ b none x.ls.length 0 i 0 _ hl O0).mono ?_;rintro e q ⟨⟨r,rfl,hr⟩,y⟩;have C:=U0 (hr.trans (a0K g));have f:Below (w.heap.size+1) (w.alloc (.cells #[vI 2,vI x.ep,vS x.fn,vS x.ft,vS x.km.nm,vS x.km.tl,vS x.km.ar,vL b x.ls.length i,vI x.cd,vS x.tx] 105)) q:=lF y;have j:=(P _).trans (f.mono O0);have k:=(I5 w [vI 2,vI x.ep,vS x.fn,vS x.ft,vS x.km.nm,vS x.km.tl,vS x.km.ar,vL b x.ls.length i,vI x.cd,vS x.tx] 105).below f O0;have d:w.heap.size<q.heap.size:=by have h:=f.size;simp at h;omega
 clear hr y f;have n1:=k 2 _ rfl;have n2:=k 3 _ rfl;cases r
 · have l:Hid (aB (U8 x) (F_ x) (.returned vE)):=Jk (fun h=>absurd (C.out.2 ((JY g).1 h).1) Ql);go_wp2;go_ret;exact ⟨l.out,j⟩
 · have D:=U0 (C.out.1 rfl)
   go_wp2_with fail
   refine (sV x.fn x.ft _ O0 O0).mono ?_;rintro e F ⟨⟨H,rfl,t⟩,a⟩;have B:=U0 t;have A:=G7 j a;have J:=(a.cell (p:=(aW w 2)) (by exact d)).trans n1;have I:=(a.cell (p:=(aW w 3)) (by exact d)).trans n2;have s:=m_ d a.size;clear t a n1 n2 d k j N;cases H
   · have l:Hid (aB (U8 x) (F_ x) (.returned vE)):=Jk (fun h=>absurd (B.out.2 ((JY g).1 h).2) Ql);go_wp2;go_ret;exact ⟨l.out,A⟩
   · have c:=B.out.1 rfl;have Q:=U0 ((JY g).2 ⟨D.out,c⟩);have n:=(Ij c.1).2;have z1:x.fn.size<=20:=by simpa using n
     have z2:=Ue x.ft;have z3:=c.2;have R:Hid ((⟨#[102,105,108,101,32]⟩:BY)++x.fn++⟨#[32]⟩++Y2 (X5 x.ft.data.toList)++⟨#[10]⟩=Y2 (F_ x)):=by show _=_;rw [nZ,<- D.out]
     have g0:¬ 9223372036854775807<5+x.fn.size:=O0;have g1':¬ 9223372036854775807<=5+x.fn.size:=O0;have g1:¬ 9223372036854775807<5+x.fn.size+1:=O0;have g2:¬ 9223372036854775807<5+x.fn.size+1+(Y2 (X5 x.ft.data.toList)).size:=O0;have g3':¬ 9223372036854775807<=5+x.fn.size+1+(Y2 (X5 x.ft.data.toList)).size:=O0;have g3:¬ 9223372036854775807<5+x.fn.size+1+(Y2 (X5 x.ft.data.toList)).size+1:=O0;have g9:¬ (16000:Int)<5+(x.fn.size:Int)+1+((Y2 (X5 x.ft.data.toList)).size:Int)+1:=O0;clear c n
     go_wp2_with fail
     refine wp_region_held_drew (S:=(fun u=>u.cell? (aW w 2)=some (vS x.fn)/\u.cell? (aW w 3)=some (vS x.ft))) J3 ?_ fun hHeld=>?_
     · ((try dsimp only);go_keep)
     refine Y0 0 ?_;refine Y0 1 ?_;refine Y0 2 ?_;refine Y0 3 ?_;refine Y0 4 ?_;refine Y0 5 ?_;refine Y0 6 ?_;refine Y0 7 ?_;refine rq 8 fun K z=>?_;go_simp;refine (XG x.ft _ O0).mono ?_;rintro e E ⟨rfl,v⟩;have m:Hid (Bw F E):=((Z4 _ _).drew).trans v;have d2:=(m.out.cell (p:=(aW w 2)) (by exact s)).trans J;have d3:=(m.out.cell (p:=(aW w 3)) (by exact s)).trans I;clear v
     go_wp2_with fail
     clear hHeld;refine wF z fun hHeld=>?_;clear z K;refine Y0 9 ?_;refine Y0 10 ?_;refine Y0 11 ?_;refine wdn ?_;have O:=G7 A m.out;clear hHeld;go_wp2;go_ret;exact ⟨⟨_,rfl,.inl ⟨Q.out,R.out⟩⟩,O⟩
def oN (l:List UInt8) (x:L4) (ok:Bool):Prop:=(∀ y,Vh y->l=Mc y->ok=true/\x=y)/\(ZA l=false->ok=false)
def qY (l:List UInt8) (e:Ending):Prop:=∃ (x:L4) (ok:Bool),e=.returned (.tuple #[x.v,.bool ok])/\oN l x ok/\x.le 1048576
theorem OY (h:ZA l=false) (x:L4):oN l x false:=by
 refine ⟨fun y b e=>?_,fun _=>rfl⟩;obtain ⟨a,_⟩:=Om b.1;rw [<- e] at a;rw [(Ws a).1] at h;cases h
theorem JU (h:ZA l=true) (hr:xK (Y1 (Y1 l)) c t):oN l ⟨Gj l,Y2 (O1 (Y1 l)),c,t⟩ true:=by
 constructor
 · intro y f e;obtain ⟨a,b,d⟩:=Om f.1;rw [<- e] at a b d;obtain ⟨h1,h2⟩:=hr _ _ (Ji f).1 (Ji f).2 d;refine ⟨rfl,?_⟩;rw [(Ws a).2,b,h1,h2];rfl
 · intro e;rw [h] at e;cases e
theorem a0R (l:List UInt8) (w:World) (hs:l.length<=16000):
 Calls prog 99 #[.string (Y2 l)] w fun e w'=>qY l e/\Bw w w':=by
 have Z:Bw w (w.alloc (.cells #[.bool false,vE,vO,vE] 167)):=o7;have hr:=X7 l;have W:=X7 (Y1 l);have h1:=has_eq l;have h2:=qQ l;have Y:ZA l=(Gj l || decide (O1 l=[97,115,107])):=rfl;go_enter func99,ntmps99
 go_wp2_with fail
 refine (Vz l _ O0 2 O0 O0).mono ?_;rintro e m ⟨⟨g,cp,rfl,U,I⟩,V⟩;have z:m.cell? (aA g 0)=some (vS (Y2 (O1 l))):=I.2 0 (by simp [w_]);have y:m.cell? (aA g 1)=some (vS (Y2 (O1 (Y1 l)))):=I.2 1 (by simp [w_]);have x:=I.1;have O:Below (w.heap.size+1) (w.alloc (.cells #[.bool false,vE,vO,vE] 167)) m:=lF V;have hg2:w.heap.size<g:=by have h:=U;simp at h;omega
 have J:=Z.trans (O.mono O0);clear V I U;obtain ⟨F,H⟩:=dH (vs:=[.bool false,vE,vO,vE]) O;have N:ZA l=false->Hid (qY l (.returned (.tuple #[.agg #[.bool false,vE,vO,vE],.bool false]))):=fun h=>⟨O_,false,rfl,OY h _,⟨D5 _,D5 _⟩⟩;have n:ZA l=true->∀ c t,xK (Y1 (Y1 l)) c t->t.size<=1048576->Hid (qY l (.returned (.tuple #[.agg #[.bool (Gj l),vS (Y2 (O1 (Y1 l))),vI c,vS t],.bool true]))):=fun h c t X ht=>⟨⟨Gj l,Y2 (O1 (Y1 l)),c,t⟩,true,rfl,JU h X,⟨by show (Y2 (O1 (Y1 l))).size<=1048576;rw [J5];omega,ht⟩⟩;have L:=aZ (Y1 (Y1 l));have Q:Y2 (S9 l 2)=Y2 (Y1 (Y1 l)):=rfl;rw [Q];have P:(Y1 (Y1 l)).length<=16000:=O0;clear Q;generalize Y1 (Y1 l)=R at*;generalize Y2 (O1 (Y1 l))=B at*;generalize decide (O1 l=[97,115,107])=a at*;generalize Gj l=h at*;generalize ZA l=i at*;generalize Y2 (O1 l)=s at*;have r:w.heap.size<m.heap.size:=by have h:=O.size;simp at h;omega
 subst Y;clear hr W;cases h
 · cases a
   · have o:=N rfl;clear N n L
     go_wp2_with (refine J7 rfl 167 (.tmp 2) (.tmp 21) rfl w.heap.size 0 rfl [.bool false,vE,vO,vE] rfl (d_ F _ rfl) H (by simp [Value.oneCell']) J3 rfl ?_)
     have q:=X4.fill (B:=w.heap.size) [.bool false,vE,vO,vE] [] [.bool false,vE,vO,vE] [] 0 F rfl rfl;refine P7 (v:=.tuple #[.agg #[.bool false,vE,vO,vE],.bool false]) (by exact Ea results99 _ _ w.heap.size _ _ _ rfl rfl q underlying167 rfl J3) rfl ⟨o.out,by exact E_ x9 _ 0 J⟩
   · clear N
     go_wp2_with fail
     refine wp_region_held_drew (S:=(fun u=>u.cell? (aA g 0)=some (vS s)/\u.cell? (aA g 1)=some (vS B))) J3 ?_ fun hHeld=>?_
     · exact ⟨z,y⟩
     refine Y0 0 ?_;refine Y0 1 ?_;refine Y0 2 ?_;refine Y0 3 ?_;refine Y0 4 ?_;refine Y0 5 ?_;refine Y0 6 ?_;refine Y0 7 ?_;refine rq 8 fun K d=>?_;go_simp;refine (L _ P).mono ?_;rintro e A ⟨⟨c,t,rfl,f,C⟩,j⟩;have b:Bw m A:=((Z4 _ _).drew).trans j;have k:=F.below b r;have D:=H.below b r;have E:=G7 J b;have o:=n (by first | rfl | trivial) c t f C;have e0:=(b.cell (p:=(aA g 0)) x).trans z;have e1:=(b.cell (p:=(aA g 1)) x).trans y;clear n f j b
     go_wp2_with fail
     clear hHeld;refine J8 d ?_ fun hHeld=>?_
     · exact ⟨e0,e1⟩
     clear d K;refine Y0 9 ?_;refine rq 10 fun K d=>?_;refine U6 rfl 167 (.tmp 2) (.tmp 31) rfl w.heap.size 0 rfl [.bool false,vS B,vI c,vS t] rfl (d_ k _ rfl) D (by simp [Value.oneCell']) J3 rfl ?_;clear hHeld;refine J8 d ?_ fun hHeld=>?_
     · exact ⟨(S_ _ 0 (aA g 0) (by show g≠w.heap.size;omega)).trans e0,(S_ _ 0 (aA g 1) (by show g≠w.heap.size;omega)).trans e1⟩
     clear d K;refine Y0 11 ?_;refine wdn ?_;clear hHeld;go_wp2;have q:=X4.fill (B:=w.heap.size) [.bool false,vS B,vI c,vS t] [] [.bool false,vE,vO,vE] [] 0 k rfl rfl;refine P7 (v:=.tuple #[.agg #[.bool false,vS B,vI c,vS t],.bool true]) (by exact Ea results99 _ _ w.heap.size _ _ _ rfl rfl q underlying167 rfl J3) rfl ⟨o.out,by exact E_ x9 _ 0 E⟩
 · clear N;cases a
   · go_wp2_with fail
     refine wp_region_held_drew (S:=(fun u=>u.cell? (aA g 0)=some (vS s)/\u.cell? (aA g 1)=some (vS B))) J3 ?_ fun hHeld=>?_
     · exact ⟨z,y⟩
     refine Y0 0 ?_;refine Y0 1 ?_;refine Y0 2 ?_;refine Y0 3 ?_;refine Y0 4 ?_;refine Y0 5 ?_;refine Y0 6 ?_;refine Y0 7 ?_;refine rq 8 fun K d=>?_;go_simp;refine (L _ P).mono ?_;rintro e A ⟨⟨c,t,rfl,f,C⟩,j⟩;have b:Bw m A:=((Z4 _ _).drew).trans j;have k:=F.below b r;have D:=H.below b r;have E:=G7 J b;have o:=n (by first | rfl | trivial) c t f C;have e0:=(b.cell (p:=(aA g 0)) x).trans z;have e1:=(b.cell (p:=(aA g 1)) x).trans y;clear n f j b
     go_wp2_with fail
     clear hHeld;refine J8 d ?_ fun hHeld=>?_
     · exact ⟨e0,e1⟩
     clear d K;refine Y0 9 ?_;refine rq 10 fun K d=>?_;refine U6 rfl 167 (.tmp 2) (.tmp 31) rfl w.heap.size 0 rfl [.bool true,vS B,vI c,vS t] rfl (d_ k _ rfl) D (by simp [Value.oneCell']) J3 rfl ?_;clear hHeld;refine J8 d ?_ fun hHeld=>?_
     · exact ⟨(S_ _ 0 (aA g 0) (by show g≠w.heap.size;omega)).trans e0,(S_ _ 0 (aA g 1) (by show g≠w.heap.size;omega)).trans e1⟩
     clear d K;refine Y0 11 ?_;refine wdn ?_;clear hHeld;go_wp2;have q:=X4.fill (B:=w.heap.size) [.bool true,vS B,vI c,vS t] [] [.bool false,vE,vO,vE] [] 0 k rfl rfl;refine P7 (v:=.tuple #[.agg #[.bool true,vS B,vI c,vS t],.bool true]) (by exact Ea results99 _ _ w.heap.size _ _ _ rfl rfl q underlying167 rfl J3) rfl ⟨o.out,by exact E_ x9 _ 0 E⟩
   · go_wp2_with fail
     refine wp_region_held_drew (S:=(fun u=>u.cell? (aA g 0)=some (vS s)/\u.cell? (aA g 1)=some (vS B))) J3 ?_ fun hHeld=>?_
     · exact ⟨z,y⟩
     refine Y0 0 ?_;refine Y0 1 ?_;refine Y0 2 ?_;refine Y0 3 ?_;refine Y0 4 ?_;refine Y0 5 ?_;refine Y0 6 ?_;refine Y0 7 ?_;refine rq 8 fun K d=>?_;go_simp;refine (L _ P).mono ?_;rintro e A ⟨⟨c,t,rfl,f,C⟩,j⟩;have b:Bw m A:=((Z4 _ _).drew).trans j;have k:=F.below b r;have D:=H.below b r;have E:=G7 J b;have o:=n (by first | rfl | trivial) c t f C;have e0:=(b.cell (p:=(aA g 0)) x).trans z;have e1:=(b.cell (p:=(aA g 1)) x).trans y;clear n f j b
     go_wp2_with fail
     clear hHeld;refine J8 d ?_ fun hHeld=>?_
     · exact ⟨e0,e1⟩
     clear d K;refine Y0 9 ?_;refine rq 10 fun K d=>?_;refine U6 rfl 167 (.tmp 2) (.tmp 31) rfl w.heap.size 0 rfl [.bool true,vS B,vI c,vS t] rfl (d_ k _ rfl) D (by simp [Value.oneCell']) J3 rfl ?_;clear hHeld;refine J8 d ?_ fun hHeld=>?_
     · exact ⟨(S_ _ 0 (aA g 0) (by show g≠w.heap.size;omega)).trans e0,(S_ _ 0 (aA g 1) (by show g≠w.heap.size;omega)).trans e1⟩
     clear d K;refine Y0 11 ?_;refine wdn ?_;clear hHeld;go_wp2;have q:=X4.fill (B:=w.heap.size) [.bool true,vS B,vI c,vS t] [] [.bool false,vE,vO,vE] [] 0 k rfl rfl;refine P7 (v:=.tuple #[.agg #[.bool true,vS B,vI c,vS t],.bool true]) (by exact Ea results99 _ _ w.heap.size _ _ _ rfl rfl q underlying167 rfl J3) rfl ⟨o.out,by exact E_ x9 _ 0 E⟩
theorem zN (x:p_) (a:OA) (b:Nat) (w:World) (d:x.le 1048576) (f:I9 w a x.ls):
 Calls prog 101 #[.agg (x.c a b).toArray] w fun e w'=>aB (U8 x) (F_ x) e/\Bw w w':=by
 show Calls prog 101 #[.agg #[.int .i64 x.kd,.int .i64 x.ep,.string x.fn,.string x.ft,.string x.km.nm,.string x.km.tl,.string x.km.ar,.slice a x.ls.length b,.int .i64 x.cd,.string x.tx]] w _;by_cases h1:x.kd=1
 · have:=PW x h1 a b w d f;rw [h1];exact this
 by_cases h2:x.kd=2
 · have:=FY x h2 a b w d f;rw [h2];exact this
 by_cases i:x.kd=3
 · have:=lY x i a b w d f;rw [i];exact this
 by_cases h:x.kd=4
 · have:=vY x h a b w d f;rw [h];exact this
 by_cases g:x.kd=5
 · have:=xY x g a b w d f;rw [g];exact this
 exact yS x a b w h1 h2 i h g
def RES (l:List UInt8) (x:p_) (ok:Bool):Prop:=(ok=true->U8 x/\F_ x=l/\∀ y,U8 y->F_ y=l->x=y)/\(ok=false->∀ y,U8 y->F_ y≠l)
def Is4 (l:List UInt8) (w':World) (e:Ending):Prop:=∃ (x:p_) (ok:Bool) (ai:OA) (ci:Nat),e=.returned (.tuple #[.agg (x.c ai ci).toArray,.bool ok])/\RES l x ok/\(ok=false->x=Ii/\ai=none/\ci=0)/\x.le 1048576/\I9 w' ai x.ls
def PS (l:List UInt8) (x:p_):Prop:=∀ y,U8 y->F_ y=l->x=y
theorem Xp {a:BY} {x:p_} (hx:PS l x) (hT:(U8 x/\a=Y2 (F_ x))\/(¬ U8 x/\a=⟨#[]⟩)) (hl:l≠[]) (he:a.data.toList=l):RES l x true:=by
 refine ⟨fun _=>?_,(fun h=>by cases h)⟩;rcases hT with ⟨h1,h2⟩ | ⟨h1,h2⟩
 · exact ⟨h1,by rw [<- he,h2];rfl,hx⟩
 · rw [h2] at he;exact absurd he.symm hl
theorem Eu {a:BY} {x:p_} (hx:PS l x) (hT:(U8 x/\a=Y2 (F_ x))\/(¬ U8 x/\a=⟨#[]⟩)) (he:a.data.toList≠l):RES l Ii false:=by
 refine ⟨(fun h=>by cases h),fun _ y b e=>?_⟩;have:=hx y b e;subst this;rcases hT with ⟨h1,h2⟩ | ⟨h1,h2⟩
 · apply he;rw [h2];exact e
 · exact h1 b
theorem QK (h:l=[]\/16000<l.length):RES l Ii false:=by
 refine ⟨(fun h=>by cases h),fun _ y a e=>?_⟩;have:=qJ a;rw [e] at this;rcases h with h | h
 · rw [h] at this;simp at this
 · omega
theorem bI {a:Act} (x:p_) (b:OA) (d:Nat) (ok:Bool) (g:RES l x ok) (f:ok=false->x=Ii/\b=none/\d=0) (hx:x.le 1048576) (h:I9 (fill u w.heap.size 0 (x.c b d)) b x.ls) (k:a.tmps.getD 2 undef=.pointer (some ⟨w.heap.size,0,none⟩)) (j:a.tmps.getD 3 undef=.bool ok) (hd:a.defers=[]) (hA:X4 u w.heap.size zE) (i:Bw w u):
 bodyPost prog Tryz.f54 (fun e w'=>Is4 l w' e/\Bw w w') .ret a (fill u w.heap.size 0 (x.c b d)):=by
 have m:=X4.fill (B:=w.heap.size) (x.c b d) [] zE [] 0 hA rfl rfl;exact P7 (v:=.tuple #[.agg (x.c b d).toArray,.bool ok]) (Ea results54 _ _ w.heap.size _ _ _ k j m underlying105 rfl J3) hd ⟨⟨x,ok,b,d,rfl,g,f,hx,h⟩,E_ x9 _ 0 i⟩
theorem Xj {a:Act} (b:RES l Ii false) (f:a.tmps.getD 2 undef=.pointer (some ⟨w.heap.size,0,none⟩)) (d:a.tmps.getD 3 undef=.bool false) (hd:a.defers=[]) (hA:X4 u w.heap.size zE) (c:Bw w u):
 bodyPost prog Tryz.f54 (fun e w'=>Is4 l w' e/\Bw w w') .ret a (fill u w.heap.size 0 zE):=
 bI Ii none 0 false b (fun _=>⟨rfl,rfl,rfl⟩) zJ (.inl rfl) f d hd hA c
theorem Nk (vs:List Value) {c:OA} {is:List L4} (h:I9 u c is) (e:∀ g o,c=some ⟨g,o,none⟩->g≠B):I9 (fill u B 0 vs) c is:=by
 rcases h with h | ⟨b,off,h1,h2,f⟩
 · exact .inl h
 · refine .inr ⟨b,off,h1,by rw [mg];exact h2,fun i d=>?_⟩;have a:=e b off h1;rw [S_ _ _ _ a,S_ _ _ _ a,S_ _ _ _ a,S_ _ _ _ a];exact f i d
theorem Oy {e size n:Nat} {v:Value} {xs:List Value} (h:w.ownsRow B e size v n xs) (p:Addr) (y:Value) (hp:p.block<B):(w.setCell p y).ownsRow B e size v n xs:=by
 refine ⟨h.1,?_⟩;rcases h.2 with h0 | ⟨g,c,cur,hv,b,a,r⟩
 · exact .inl h0
 · refine .inr ⟨g,c,cur,hv,b,?_,r⟩;rw [Go.Deep.blk_setCell_other w p y g O0];exact a
theorem Ia {P:Program} {ops:Array Oper} {b:List Oper} {o:Oper} {a:Act} {Q:Exit->Act->World->Prop} (hw:Region.wanted o (yielded ops a.tmps)=true) (ty:TypeId) (x:Operand) (ho:o.op=.load ty x)
 (B:Nat) (hx:a.eval x=.pointer (some ⟨B,0,none⟩)) (cs:List Value) (d:TypeDesc) (hc:X4 w B cs)
 (c:P.underlying ty=some d) (hd:(match d with | .struct _ | .array _ _=>true | _=>false)=true) (e:(P.info? ty).map (·.size)=some cs.length)
 (h:wpList P ops Q b (a.put o.dst (.agg cs.toArray)) w):wpList P ops Q (o::b) a w:=by
 refine wpList_step fun K f=>?_;rw [G8 hw];unfold Oper.wp execOp;simp only [ho,hx,Instr.loadAt,Instr.sureAddr,Qk,Uo,Un,Vf w B ty cs d hc c hd e];exact f _ _ h
theorem Nl {y:p_} (a:U8 y) (e:F_ y=l):L8 10 l=f_ y++[[]]:=by
 rw [<- e];exact JF _ (WG a)
theorem Gl {y:p_} (a:U8 y) (e:F_ y=l):O1 ((L8 10 l).getD 0 [])=jB y:=by
 rw [Nl a e];have d:f_ y≠[]:=by unfold f_;(repeat' split) <;> simp
 obtain ⟨f,b,c⟩:=List.exists_cons_of_ne_nil d;rw [c];exact (He a c.symm).1
theorem YR (x:p_) (h1:O1 ((L8 10 l).getD 0 [])≠jk) (h2:O1 ((L8 10 l).getD 0 [])≠Le) (d:O1 ((L8 10 l).getD 0 [])≠Jh) (c:O1 ((L8 10 l).getD 0 [])≠Lh) (b:O1 ((L8 10 l).getD 0 [])≠Ug):PS l x:=by
 intro y a e;exfalso;have hw:=Gl a e;unfold jB at hw;split at hw
 · exact h2 hw
 · split at hw
   · exact d hw
   · split at hw
     · exact c hw
     · split at hw
       · exact h1 hw
       · exact b hw
theorem a0y (hF:(L8 10 l).getD 0 []=F) (hw:O1 F=Le):PS l (r_ (n29 (Y1 F))):=by
 intro y a e;have h1:=Gl a e;rw [hF] at h1;obtain ⟨n,hn,rfl⟩:=Js a (Fh a (.inl rfl) h1 (by rw [hw];rfl));rw [Nl a e] at hF;have b:Le++32::dec n=F:=hF;have hr:Y1 F=dec n:=by rw [<- b];exact (Y7 O6).2
 rw [hr,pG O0 O0]
theorem a0l {t:List UInt8} (hF:(L8 10 l).getD 0 []=F) (hw:O1 F=Jh) (ht:∀ q,Y1 (Y1 F)=X5 q->t=q):PS l (Vb (Y2 (O1 (Y1 F))) (Y2 t)):=by
 intro y c e;have h1:=Gl c e;rw [hF] at h1;obtain ⟨a,b,g,rfl⟩:=Yw c (Fh c (.inr (.inl rfl)) h1 (by rw [hw];rfl));rw [Nl c e] at hF;have h:Jh++32::(a.data.toList++32::X5 b.data.toList)=F:=hF;have hr:Y1 F=a.data.toList++32::X5 b.data.toList:=by rw [<- h];exact (Y7 O6).2
 obtain ⟨f,d⟩:=Y7 (r:=X5 b.data.toList) (R_ g.1).1;rw [<- hr] at f d;rw [f,ht _ d];rfl
theorem xZ (hF:(L8 10 l).getD 0 []=F) (hw:O1 F=Lh):PS l (Xb (Y2 (Y1 F))):=by
 intro y b e;have h1:=Gl b e;rw [hF] at h1;obtain ⟨a,hn,rfl⟩:=jr b (Fh b (.inr (.inr (.inl rfl))) h1 (by rw [hw];rfl));rw [Nl b e] at hF;have c:Lh++32::a.data.toList=F:=hF;have hr:Y1 F=a.data.toList:=by rw [<- c];exact (Y7 O6).2
 rw [hr];rfl
theorem a0a (hF:(L8 10 l).getD 0 []=F) (hw:O1 F=Ug):PS l U_:=by
 intro y a e;have h1:=Gl a e;rw [hF] at h1;exact (ay a (Fh a (.inr (.inr (.inr (.inr rfl)))) h1 (by rw [hw];rfl))).symm
def Nw (Ls:List (List UInt8)) (k:Nat) (xs:List L4) (c:Int) (t:BY):Prop:=∀ (f:List UInt8) (ys:List L4) (c':Int) (t':BY),jg ys->vr c' t'.data.toList=true->Ls=f::(ys.map Mc++[Hf++32::Ib c' t',[]])->xs=ys.take (k - 1)/\(ys.length+1<k->c=c'/\t=t')
theorem kP (a:List (List UInt8)) (c:Int) (t:BY):Nw a 1 [] c t:=fun _ ys _ _ _ _ _=>⟨I4,fun h=>O0⟩
theorem FU (r:List UInt8):ZA (Hf++32::r)=false:=by
 have:=(Y7 (a:=Hf) (r:=r) O6).1;unfold ZA Gj;rw [this];decide
theorem bD {f:List UInt8} {ys:List L4} {g:List UInt8} (hk1:1<=k) (b:k<a.length) (e:a=f::(ys.map Mc++[g,[]])):
 (∃ h:k - 1<ys.length,a.getD k []=Mc (ys[k - 1]))\/(k=ys.length+1/\a.getD k []=g)\/(k=ys.length+2/\a.getD k []=[]):=by
 subst e;obtain ⟨j,rfl⟩:∃ j,k=j+1:=⟨k - 1,O0⟩;have c:(f::(ys.map Mc++[g,[]])).getD (j+1) []=(ys.map Mc++[g,[]]).getD j []:=rfl;rw [c];simp only [A_,N9,Lc,Xe] at b;rcases o8 j ys.length with hl | hl
 · refine .inl ⟨O0,?_⟩;rw [Pj,I_ (by simpa using hl)];simp [hl]
 · right;rw [Pj,Cf (by simpa using hl)];simp only [Lc];have:j - ys.length=0\/j - ys.length=1:=O0;rcases this with h | h
   · exact .inl ⟨O0,by rw [h];rfl⟩
   · exact .inr ⟨O0,by rw [h];rfl⟩
theorem uV (h:Nw a k xs c t) (j:1<=k) (l:k<a.length) (hx:oN (a.getD k []) x true):Nw a (k+1) (xs++[x]) c t:=by
 intro f ys n g b hv e;obtain ⟨h1,h2⟩:=h f ys n g b hv e;rcases bD j l e with ⟨hl,e1⟩ | ⟨rfl,e1⟩ | ⟨rfl,e1⟩
 · have d:=b.2 _ hl;have m:ys.getD (k - 1) O_=ys[k - 1]:=by simp [hl]
   rw [m] at d;obtain ⟨_,i⟩:=hx.1 _ d e1;refine ⟨?_,fun h=>O0⟩;rw [h1,i,show k+1 - 1=(k - 1)+1 by omega,Uy hl]
 · have:=hx.2 (by rw [e1];exact FU _);cases this
 · have:=hx.2 (by rw [e1];decide);cases this
theorem UW {c2:Int} {t2:BY} (h:Nw a k xs c t) (j:1<=k) (l:k<a.length) (hx:oN (a.getD k []) x false) (g:5<(a.getD k []).length) (hr:xK ((a.getD k []).drop 5) c2 t2):Nw a (k+1) xs c2 t2:=by
 intro f ys n i b hv e;obtain ⟨h1,h2⟩:=h f ys n i b hv e;rcases bD j l e with ⟨hl,e1⟩ | ⟨rfl,e1⟩ | ⟨rfl,e1⟩
 · have d:=b.2 _ hl;have m:ys.getD (k - 1) O_=ys[k - 1]:=by simp [hl]
   rw [m] at d;have:=(hx.1 _ d e1).1;cases this
 · refine ⟨?_,fun _=>hr _ _ (Qg hv).1 (Qg hv).2 (by rw [e1];rfl)⟩;rw [h1,u_ O0,u_ O0]
 · rw [e1] at g;simp at g
theorem dU (h:Nw a k xs c t) (m:1<=k) (n:k<a.length) (hx:oN (a.getD k []) x false) (j:¬ 5<(a.getD k []).length):Nw a (k+1) xs c t:=by
 intro f ys d b g hv e;obtain ⟨h1,h2⟩:=h f ys d b g hv e;rcases bD m n e with ⟨hl,e1⟩ | ⟨rfl,e1⟩ | ⟨rfl,e1⟩
 · have i:=g.2 _ hl;have o:ys.getD (k - 1) O_=ys[k - 1]:=by simp [hl]
   rw [o] at i;have:=(hx.1 _ i e1).1;cases this
 · exfalso;rw [e1] at j;have l:Ib d b≠[]:=fD _ _;have:0<(Ib d b).length:=Gt.2 l;apply j;simp only [N9,A_,Hf,Xe];omega
 · exact ⟨by rw [h1,u_ O0,u_ O0],fun _=>h2 O0⟩
theorem NZ {q:List UInt8} (hF:(L8 10 l).getD 0 []=F) (hw:O1 F=jk) (z:∀ p,S9 (Y1 F) 2=X5 p->q=p) (w:Nw (L8 10 l) (L8 10 l).length xs c t):PS l (Ag ⟨Y2 (O1 (Y1 F)),Y2 (O1 (S9 (Y1 F) 1)),Y2 q⟩ xs c t):=by
 intro y a e;have h1:=Gl a e;rw [hF] at h1;obtain ⟨m,ls,h,d,⟨n1,n2,n3⟩,rfl⟩:=zA a (Fh a (.inr (.inr (.inr (.inl rfl)))) h1 (by rw [hw];rfl));have hl:=Nl a e;have b:L8 10 l=(jk++32::Bd m)::(ls.map Mc++[Hf++32::Ib h d,[]]):=by rw [hl];simp [f_,Ag]
 obtain ⟨f,o⟩:=w _ ls h d n2 n3 b;have hlen:(L8 10 l).length=ls.length+3:=by rw [b];simp
 obtain ⟨rfl,rfl⟩:=o O0;rw [u_ O0] at f;rw [b] at hF;have A:jk++32::Bd m=F:=hF;have hr:Y1 F=Bd m:=by rw [<- A];exact (Y7 O6).2
 obtain ⟨v,u,_⟩:=zh n1;rw [Ic] at hr;obtain ⟨n,k⟩:=Y7 (r:=m.tl.data.toList++32::X5 m.ar.data.toList) (R_ v).1;obtain ⟨j,i⟩:=Y7 (r:=X5 m.ar.data.toList) (R_ u).1;have g:S9 (Y1 F) 1=m.tl.data.toList++32::X5 m.ar.data.toList:=by rw [hr];exact k
 have s:S9 (Y1 F) 2=X5 m.ar.data.toList:=by
  show Y1 (S9 (Y1 F) 1)=_;rw [g];exact i
 have x:=z _ s;rw [g,hr,n,j,x,f];rfl
theorem a0p (l:List UInt8) (w:World) (a:l.length<=1048700):Calls prog 98 #[.string (Y2 l)] w fun e w'=>(∃ t,e=.returned (.string (Y2 t))/\t.length<=l.length+1/\∀ q,l=X5 q->t=q)/\Bw w w':=by
 have h:=c98 (Y2 l) w (by rw [J5];exact a);rw [J5] at h;exact h
theorem BP (s:BY) (w:World) (h1:1<=s.size) (h16:s.size<=16000) (hw:O1 ((L8 10 s.data.toList).getD 0 [])=Jh):
 Calls prog 54 #[.string s] w fun e w'=>Is4 s.data.toList w' e/\Bw w w':=by
 have hB0:Bw w ((w.alloc (.cells zE.toArray 105)).alloc (.cells zE.toArray 105)):=o7.alloc I4 _;have hsl:s.data.toList.length=s.size:=I4;have HNE:Hid (s.data.toList≠[]):=fun h=>by rw [h] at hsl;simp at hsl;omega
 have hse:(s.toList==[])=false:=by
  rw [ByteArray.toList_eq];exact n_.2 HNE.out
 have a4p:¬ s.toList=[]:=by simpa using hse
 have a4q:decide (16000<(s.size:Int))=false:=U7;go_enter func54,ntmps54
 go_wp2_with fail
 refine (IY s 10 _ O0).mono ?_;rintro e P ⟨⟨g2,cp,rfl,hg2,D⟩,hb1⟩;have a4r:((w.alloc (.cells zE.toArray 105)).alloc (.cells zE.toArray 105)).heap.size=w.heap.size+2:=I4;have v:Below (w.heap.size+2) ((w.alloc (.cells zE.toArray 105)).alloc (.cells zE.toArray 105)) P:=hb1.mono I4;have a3a:w.heap.size+2<=g2:=by have h:=hg2;simp at h;omega
 have hz1:w.heap.size+2<=P.heap.size:=by have h:=v.size;rw [a4r] at h;exact h
 have bR1:=((I5 w zE 105).below o7 I4).below v O0;have oR1:=((N8 w zE.toArray 105).below o7 I4).below v O0;have bM1:=X4.below (by have h:=I5 (w.alloc (.cells zE.toArray 105)) zE 105;simp at h;exact h) v O0;have oM1:=Y5.below (by have h:=N8 (w.alloc (.cells zE.toArray 105)) zE.toArray 105;simp at h;exact h) v O0;have H:=hB0.trans (v.mono O0);have J:=Qi 10 s.data.toList;have Y:=Oe 10 s.data.toList;clear hb1 hg2 a4r v;obtain ⟨y,Z⟩:∃ y,y=L8 10 s.data.toList:=⟨_,rfl⟩;rw [<- Z] at D J Y hw ⊢;have HLS:=U0 Z.symm;have HCS:Hid (∀ k,(y.getD k []).length<=16000):=fun k=>Q7 (Y k) O0;obtain ⟨F,hF⟩:∃ F,F=y.getD 0 []:=⟨_,rfl⟩;have HF:=U0 hF.symm;have hFl:F.length<=16000:=by rw [hF];exact HCS.out 0
 rw [<- hF] at hw;have a3b:=J.1;have a3O:y.length<=16001:=by have:=J.2;omega
 have c0:P.cell? (aA g2 0)=some (vS (Y2 F)):=by rw [hF];exact D.2 0 a3b
 have a3c:=D.1;clear hF Z Y J
 go_wp2_with fail
 refine (Vz F _ O0 1 O0 O0).mono ?_;rintro e r ⟨⟨g3,cp3,rfl,hg3,V⟩,n⟩;have hz3:=n.size;have bR:=X4.below bR1 n O0;have oR:=Y5.below oR1 n O0;have bM:=X4.below bM1 n O0;have Q:=Y5.below oM1 n O0;have hL3:=U0 (Qc D n);have hB3:=G7 H n;have d0:r.cell? (aA g3 0)=some (vS (Y2 (O1 F))):=V.2 0 (by simp [w_]);have a3J:=V.1;have hrs:=X7 F;have hrN:Y2 (S9 F 1)=Y2 (Y1 F):=rfl;rw [hrN];clear hrN n bR1 oR1 bM1 oM1 D H V c0 hB0;have hMz:w.heap.size+1<r.heap.size:=O0;have hRB:w.heap.size<w.heap.size+1:=O0;have a3K:w.heap.size+1<g3:=O0;have a3P:w.heap.size+1<g2:=O0;have a3l:g2<r.heap.size:=O0;clear hg3 a3c a3a hz1 hz3;generalize w.heap.size+1=a at*;have HXg:=fun t ht=>a0l (l:=s.data.toList) (F:=F) (t:=t) (by rw [HLS.out];exact HF.out) hw ht;have HW:=U0 hw;have hes:Y2 (O1 F)=⟨#[102,105,108,101]⟩:=by rw [hw];rfl
 rw [hes] at d0;clear hw hes;have k0:=bM 0 _ rfl;have f0:=Q 0;have a4F:=X7 (Y1 F);have a5k:=X7 (Y1 (Y1 F))
 go_wp2_with fail
 refine (Vz (Y1 F) _ O0 1 O0 O0).mono ?_;rintro e I ⟨⟨g4,cp4,rfl,X,R⟩,m⟩;have f:(r.setCell (aA a 0) (vI 2)).heap.size=r.heap.size:=I4;have hz4:r.heap.size<=I.heap.size:=by have h:=m.size;rw [f] at h;exact h
 have bM4:=X4.below (bM.set 0 (vI 2) (by show 0<10;omega)) m (by rw [f];exact hMz);have oM4:=Y5.below (Q.set (aA a 0) (vI 2)) m (by rw [f];exact hMz);have bR4:=X4.below (bR.other (aA a 0) (vI 2) (by show a≠w.heap.size;omega)) m (by rw [f];omega);have oR4:=Y5.below (oR.set (aA a 0) (vI 2)) m (by rw [f];omega);have hB4:=(hB3.setCell (by show w.heap.size<=a;omega) _).trans (m.mono (by rw [f];omega));have a5y:r.heap.size<=g4:=by rw [f] at X;exact X
 have a3p:=R.1;have hL4:Hid (Yb I g2 y):=⟨O0,fun i W=>(m.cell (p:=(aA g2 i)) (by rw [f];exact a3l)).trans (dP (q:=(aA a 0)) (p:=(aA g2 i)) (by show a≠g2;omega) (hL3.out.2 i W) _)⟩;have e0:I.cell? (aA g4 0)=some (vS (Y2 (O1 (Y1 F)))):=R.2 0 (by simp [w_]);have a5z:Y2 (S9 (Y1 F) 1)=Y2 (Y1 (Y1 F)):=rfl;rw [a5z];clear a5z m f bM Q bR oR hB3 R X hL3 d0 k0 f0;have a1:(O1 (Y1 F)).length<=16000:=O0;have a2:(Y1 (Y1 F)).length<=16000:=O0;clear hrs a4F a5k;generalize O1 (Y1 F)=b at*;generalize Y1 (Y1 F)=A2 at*
 go_wp2_with fail
 refine wp_region_held_drew (S:=(fun u=>u.cell? (aA g4 0)=some (vS (Y2 b)))) J3 ?_ fun hHeld=>?_
 · exact e0
 refine Y0 0 ?_;refine Y0 1 ?_;refine Y0 2 ?_;refine Y0 3 ?_;refine rq 4 fun K E=>?_;go_simp;refine (a0p A2 _ O0).mono ?_;rintro e d ⟨⟨t,rfl,htl,htq⟩,hbn⟩;have j:Bw I d:=((Z4 _ _).drew).trans hbn;have HTQ:=U0 htq;clear hbn htq
 go_wp2_with fail
 clear hHeld;refine J8 E ?_ fun hHeld=>?_
 · exact (j.cell (p:=(aA g4 0)) a3p).trans e0
 clear E K;refine Y0 5 ?_;refine Y0 6 ?_;have L:=X4.below bM4 j O0;have oM5:=Y5.below oM4 j O0;have e5:=(j.cell (p:=(aA g4 0)) a3p).trans e0;refine rq 7 fun K E=>?_;refine U6 rfl 99 (.tmp 52) (.tmp 51) rfl a 2 rfl [vS (Y2 b),vS (Y2 t)] rfl (fun i W=>by rcases i with _ | _ | i;exact (by rw [L 2 _ rfl];rfl);exact (by rw [L 3 _ rfl];rfl);simp at W;omega) oM5 (by simp [Value.oneCell']) J3 rfl ?_;clear hHeld;refine J8 E ?_ fun hHeld=>?_
 · exact (S_ _ 2 (aA g4 0) (by show g4≠a;omega)).trans e5
 clear E K;refine wdn ?_;clear hHeld;have hz5:=j.size;have bR5:=X4.below bR4 j O0;have oR5:=Y5.below oR4 j O0;have hB5:=G7 hB4 j;have N:=U0 (HXg t HTQ.out);have HM:X4 (fill d a 2 [vS (Y2 b),vS (Y2 t)]) a ((Vb (Y2 b) (Y2 t)).c none 0):=X4.fill (B:=a) [vS (Y2 b),vS (Y2 t)] [vI 2,vO] [vE,vE] [vE,vE,vE,vN,vO,vE] 2 L rfl rfl;have HR:X4 (fill d a 2 [vS (Y2 b),vS (Y2 t)]) w.heap.size zE:=X4.wW O0 _ 2 bR5;have HO:Y5 (fill d a 2 [vS (Y2 b),vS (Y2 t)]) w.heap.size:=Y5.fill _ 2 oR5;have hBU:Bw w (fill d a 2 [vS (Y2 b),vS (Y2 t)]):=E_ O0 _ 2 hB5;have hMU:a<(fill d a 2 [vS (Y2 b),vS (Y2 t)]).heap.size:=by rw [mg];omega
 have hRU:w.heap.size<(fill d a 2 [vS (Y2 b),vS (Y2 t)]).heap.size:=by rw [mg];omega
 have HLK:I9 (fill d a 2 [vS (Y2 b),vS (Y2 t)]) none (Vb (Y2 b) (Y2 t)).ls:=.inl rfl;have hle:(Vb (Y2 b) (Y2 t)).le 1048576:=⟨by show (Y2 b).size<=1048576;rw [J5];omega,by show (Y2 t).size<=1048576;rw [J5];omega,⟨D5 _,D5 _,D5 _⟩,⟨D5 _,fun _=>⟨D5 _,D5 _⟩⟩,D5 _⟩;have a3d:∀ g o,(none:OA)=some (aA g o)->g≠w.heap.size:=fun _ _ h=>by cases h
 clear bM4 oM4 L oM5 bR4 oR4 bR5 oR5 hB4 hB5 j HXg e0 e5;generalize fill d a 2 [vS (Y2 b),vS (Y2 t)]=U at*;generalize Y2 b=C at*;generalize Y2 t=A at*
 go_wp2_with (refine Ia (by rfl) 105 (.tmp 4) rfl a rfl ((Vb C A).c none 0) _ HM underlying105 rfl J3 ?_)
 refine (zN (Vb C A) none 0 _ hle HLK).mono ?_;rintro e U1 ⟨⟨z,rfl,hT⟩,x⟩;have HM1:=X4.below HM x hMU;have O:=X4.below HR x hRU;have HO1:=Y5.below HO x hRU;have H:=G7 hBU x;have a3e:=N7 HLK x;clear HM HR HO HLK hBU x;by_cases he:z.data.toList=s.data.toList
 · have HN:=U0 (Xp N.out hT HNE.out he);have e2:z.toList=s.toList:=by rw [ByteArray.toList_eq,ByteArray.toList_eq];exact he
   have e1:(z.toList==s.toList)=true:=by simpa using e2
   clear hT N he
   go_wp2_with (first | refine X9 rfl 105 (.tmp 4) rfl a rfl ((Vb C A).c none 0) _ HM1 underlying105 rfl J3 ?_ | refine J7 rfl 105 (.tmp 2) (.tmp 123) rfl w.heap.size 0 rfl ((Vb C A).c none 0) rfl (d_ O _ rfl) HO1 (p_.lC _ _ _) J3 rfl ?_)
   exact bI (Vb C A) none 0 true HN.out (fun h=>by cases h) hle (Nk _ a3e a3d) rfl rfl rfl O H
 · have HN:=U0 (Eu N.out hT he);have e2:¬ z.toList=s.toList:=by rw [ByteArray.toList_eq,ByteArray.toList_eq];exact he
   have e1:(z.toList==s.toList)=false:=by simpa using e2
   clear hT N he
   go_wp2_with (refine J7 rfl 105 (.tmp 2) (.tmp 122) rfl w.heap.size 0 rfl zE rfl (d_ O zE rfl) HO1 (by simp [zE,Value.oneCell']) J3 rfl ?_)
   exact Xj HN.out rfl rfl rfl O H
theorem YU (s:BY) (w:World) (h1:1<=s.size) (h16:s.size<=16000) (hw:O1 ((L8 10 s.data.toList).getD 0 [])=jk):
 Calls prog 54 #[.string s] w fun e w'=>Is4 s.data.toList w' e/\Bw w w':=by
 have hB0:Bw w ((w.alloc (.cells zE.toArray 105)).alloc (.cells zE.toArray 105)):=o7.alloc I4 _;have hsl:s.data.toList.length=s.size:=I4;have HNE:Hid (s.data.toList≠[]):=fun h=>by rw [h] at hsl;simp at hsl;omega
 have hse:(s.toList==[])=false:=by
  rw [ByteArray.toList_eq];exact n_.2 HNE.out
 have a4p:¬ s.toList=[]:=by simpa using hse
 have a4q:decide (16000<(s.size:Int))=false:=U7;go_enter func54,ntmps54
 go_wp2_with fail
 refine (IY s 10 _ O0).mono ?_;rintro e w1 ⟨⟨g2,cp,rfl,hg2,hL1⟩,hb1⟩;have a4r:((w.alloc (.cells zE.toArray 105)).alloc (.cells zE.toArray 105)).heap.size=w.heap.size+2:=I4;have Q:Below (w.heap.size+2) ((w.alloc (.cells zE.toArray 105)).alloc (.cells zE.toArray 105)) w1:=hb1.mono I4;have a3a:w.heap.size+2<=g2:=by have h:=hg2;simp at h;omega
 have hz1:w.heap.size+2<=w1.heap.size:=by have h:=Q.size;rw [a4r] at h;exact h
 have bR1:=((I5 w zE 105).below o7 I4).below Q O0;have oR1:=((N8 w zE.toArray 105).below o7 I4).below Q O0;have bM1:=X4.below (by have h:=I5 (w.alloc (.cells zE.toArray 105)) zE 105;simp at h;exact h) Q O0;have oM1:=Y5.below (by have h:=N8 (w.alloc (.cells zE.toArray 105)) zE.toArray 105;simp at h;exact h) Q O0;have hB1:=hB0.trans (Q.mono O0);have hcl:=Qi 10 s.data.toList;have hcs:=Oe 10 s.data.toList;clear hb1 hg2 a4r Q;obtain ⟨f,hLs⟩:∃ f,f=L8 10 s.data.toList:=⟨_,rfl⟩;rw [<- hLs] at hL1 hcl hcs hw ⊢;have HLS:=U0 hLs.symm;have HCS:Hid (∀ k,(f.getD k []).length<=16000):=fun k=>Q7 (hcs k) O0;obtain ⟨F,hF⟩:∃ F,F=f.getD 0 []:=⟨_,rfl⟩;have HF:=U0 hF.symm;have hFl:F.length<=16000:=by rw [hF];exact HCS.out 0
 rw [<- hF] at hw;have a3b:=hcl.1;have a3O:f.length<=16001:=by have:=hcl.2;omega
 have c0:w1.cell? (aA g2 0)=some (vS (Y2 F)):=by rw [hF];exact hL1.2 0 a3b
 have a3c:=hL1.1;clear hF hLs hcs hcl
 go_wp2_with fail
 refine (Vz F _ O0 1 O0 O0).mono ?_;rintro e P ⟨⟨g3,cp3,rfl,hg3,hl3⟩,N⟩;have hz3:=N.size;have bR:=X4.below bR1 N O0;have I:=Y5.below oR1 N O0;have C:=X4.below bM1 N O0;have J:=Y5.below oM1 N O0;have hL3:=U0 (Qc hL1 N);have hB3:=G7 hB1 N;have d0:P.cell? (aA g3 0)=some (vS (Y2 (O1 F))):=hl3.2 0 (by simp [w_]);have a3J:=hl3.1;have hrs:=X7 F;have hrN:Y2 (S9 F 1)=Y2 (Y1 F):=rfl;rw [hrN];clear hrN N bR1 oR1 bM1 oM1 hL1 hB1 hl3 c0 hB0;have hMz:w.heap.size+1<P.heap.size:=O0;have hRB:w.heap.size<w.heap.size+1:=O0;have a3K:w.heap.size+1<g3:=O0;have a3P:w.heap.size+1<g2:=O0;have a3l:g2<P.heap.size:=O0;clear hg3 a3c a3a hz1 hz3;generalize w.heap.size+1=a at*;have HXg:=fun q xs c t hq hs=>NZ (l:=s.data.toList) (F:=F) (q:=q) (xs:=xs) (c:=c) (t:=t) (by rw [HLS.out];exact HF.out) hw hq (by rw [HLS.out];exact hs);have HW:=U0 hw;have hes:Y2 (O1 F)=⟨#[114,97,110]⟩:=by rw [hw];rfl
 rw [hes] at d0;clear hw hes;have k0:=C 0 _ rfl;have f0:=J 0;have a4F:=X7 (Y1 F);have a5k:=X7 (Y1 (Y1 F))
 go_wp2_with fail
 refine (Vz (Y1 F) _ O0 2 O0 O0).mono ?_;rintro e w4 ⟨⟨g4,cp4,rfl,hg4,hl4⟩,L⟩;have D:(P.setCell (aA a 0) (vI 4)).heap.size=P.heap.size:=I4;have hz4:P.heap.size<=w4.heap.size:=by have h:=L.size;rw [D] at h;exact h
 have bM4:=X4.below (C.set 0 (vI 4) (by show 0<10;omega)) L (by rw [D];exact hMz);have oM4:=Y5.below (J.set (aA a 0) (vI 4)) L (by rw [D];exact hMz);have bR4:=X4.below (bR.other (aA a 0) (vI 4) (by show a≠w.heap.size;omega)) L (by rw [D];omega);have oR4:=Y5.below (I.set (aA a 0) (vI 4)) L (by rw [D];omega);have hB4:=(hB3.setCell (by show w.heap.size<=a;omega) _).trans (L.mono (by rw [D];omega));have a5y:P.heap.size<=g4:=by rw [D] at hg4;exact hg4
 have a3p:=hl4.1;have hL4:Hid (Yb w4 g2 f):=⟨O0,fun i r=>(L.cell (p:=(aA g2 i)) (by rw [D];exact a3l)).trans (dP (q:=(aA a 0)) (p:=(aA g2 i)) (by show a≠g2;omega) (hL3.out.2 i r) _)⟩;have a6s:=X7 (S9 (Y1 F) 1);have e0:w4.cell? (aA g4 0)=some (vS (Y2 (O1 (Y1 F)))):=hl4.2 0 (by simp [w_]);have e1:w4.cell? (aA g4 1)=some (vS (Y2 (O1 (S9 (Y1 F) 1)))):=hl4.2 1 (by simp [w_]);obtain ⟨j0,H,hy0,hy1,hy2⟩:=info_parts EJ;have hrl:=Yi (Y1 F);have a1:(O1 (Y1 F)).length<=16000:=O0;have a2:(O1 (S9 (Y1 F) 1)).length<=16000:=by have h:=hrl 1;omega
 have a3:(S9 (Y1 F) 2).length<=16000:=by have h:=hrl 2;omega
 clear L D C J bR I hB3 hl4 hg4 hL3 d0 k0 f0 hrs a4F a5k a6s hrl;generalize S9 (Y1 F) 2=A3 at*;generalize O1 (S9 (Y1 F) 1)=b at*;generalize O1 (Y1 F)=d at*
 go_wp2_with fail
 refine wp_region_held_drew (S:=(fun u=>u.cell? (aA g4 0)=some (vS (Y2 d))/\u.cell? (aA g4 1)=some (vS (Y2 b)))) J3 ?_ fun hHeld=>?_
 · exact ⟨e0,e1⟩
 refine Y0 0 ?_;refine Y0 1 ?_;refine Y0 2 ?_;refine Y0 3 ?_;refine Y0 4 ?_;refine Y0 5 ?_;refine Y0 6 ?_;refine rq 7 fun K hK=>?_;go_simp;refine (a0p A3 _ O0).mono ?_;rintro e m ⟨⟨q,rfl,htl,htq⟩,hbn⟩;have n:Bw w4 m:=((Z4 _ _).drew).trans hbn;have HTQ:=U0 htq;clear hbn htq
 go_wp2_with fail
 clear hHeld;refine J8 hK ?_ fun hHeld=>?_
 · exact ⟨(n.cell (p:=(aA g4 0)) a3p).trans e0,(n.cell (p:=(aA g4 1)) a3p).trans e1⟩
 clear hK K;refine Y0 8 ?_;refine Y0 9 ?_;have bM5:=X4.below bM4 n O0;have oM5:=Y5.below oM4 n O0;have e5:=(n.cell (p:=(aA g4 0)) a3p).trans e0;have e6:=(n.cell (p:=(aA g4 1)) a3p).trans e1;refine rq 10 fun K hK=>?_;refine U6 rfl 101 (.tmp 79) (.tmp 78) rfl a 4 rfl [vS (Y2 d),vS (Y2 b),vS (Y2 q)] rfl (fun i r=>by rcases i with _ | _ | _ | i;exact (by rw [bM5 4 _ rfl];rfl);exact (by rw [bM5 5 _ rfl];rfl);exact (by rw [bM5 6 _ rfl];rfl);simp at r;omega) oM5 (by simp [Value.oneCell']) J3 rfl ?_;clear hHeld;refine J8 hK ?_ fun hHeld=>?_
 · exact ⟨(S_ _ 4 (aA g4 0) (by show g4≠a;omega)).trans e5,(S_ _ 4 (aA g4 1) (by show g4≠a;omega)).trans e6⟩
 clear hK K;refine wdn ?_;clear hHeld;have hz5:=n.size;have a5A:=X4.below bR4 n O0;have a5B:=Y5.below oR4 n O0;have a5C:=G7 hB4 n;have hL5':=Qc hL4.out n;have bM6:X4 (fill m a 4 [vS (Y2 d),vS (Y2 b),vS (Y2 q)]) a [vI 4,vO,vE,vE,vS (Y2 d),vS (Y2 b),vS (Y2 q),vN,vO,vE]:=X4.fill (B:=a) [vS (Y2 d),vS (Y2 b),vS (Y2 q)] [vI 4,vO,vE,vE] [vE,vE,vE] [vN,vO,vE] 4 bM5 rfl rfl;have oM6:Y5 (fill m a 4 [vS (Y2 d),vS (Y2 b),vS (Y2 q)]) a:=Y5.fill _ 4 oM5;have bR6:X4 (fill m a 4 [vS (Y2 d),vS (Y2 b),vS (Y2 q)]) w.heap.size zE:=X4.wW O0 _ 4 a5A;have oR6:Y5 (fill m a 4 [vS (Y2 d),vS (Y2 b),vS (Y2 q)]) w.heap.size:=Y5.fill _ 4 a5B;have hB6:Bw w (fill m a 4 [vS (Y2 d),vS (Y2 b),vS (Y2 q)]):=E_ O0 _ 4 a5C;have hz6:(fill m a 4 [vS (Y2 d),vS (Y2 b),vS (Y2 q)]).heap.size=m.heap.size:=mg _ _;have hL6:Yb (fill m a 4 [vS (Y2 d),vS (Y2 b),vS (Y2 q)]) g2 f:=⟨by rw [hz6];exact hL5'.1,fun i r=>(S_ _ 4 (aA g2 i) (by show g2≠a;omega)).trans (hL5'.2 i r)⟩;have a5D:g2<m.heap.size:=O0;have hMw:a<m.heap.size:=O0;rw [<- hz6] at a5D hMw;clear hz6 n bM4 oM4 bM5 oM5 bR4 oR4 a5A a5B hB4 a5C hL5' hL4 e0 e1 e5 e6;generalize fill m a 4 [vS (Y2 d),vS (Y2 b),vS (Y2 q)]=w6 at*;obtain ⟨z,a6t⟩:∃ z,z=w6.heap.size:=⟨_,rfl⟩;have A:a<z:=O0;have hgB:g2<z:=O0;have X:w.heap.size<z:=O0;clear a5y a3p hz4 hz5 hMz a3l a3J a3K
 go_wp2_with fail
 go_loopw [12] (fun i wr=>∃ (k:Nat) (xs:List L4) (v:Value) (c:Int) (t:ByteArray),(1<=k/\k<=f.length/\xs.length<=k)/\i=.int .i64 k/\wr.ownsRow z 167 4 v xs.length (FH xs)/\X4 wr a [.int .i64 4,.int .i64 0,.string ⟨#[]⟩,.string ⟨#[]⟩,.string (Y2 d),.string (Y2 b),.string (Y2 q),v,.int .i64 c,.string t]/\Y5 wr a/\X4 wr w.heap.size zE/\Y5 wr w.heap.size/\Yb wr g2 f/\Below w.heap.size w wr/\z<=wr.heap.size/\Hid (Nw f k xs c t/\(∀ j,(xs.getD j O_).le 1048576)/\t.size<=1048576)) (fun i _=>f.length - (intOf i).toNat)
 case atStart=>exact ⟨1,[],vN,0,⟨#[]⟩,⟨Y9 _,O0,D5 _⟩,rfl,⟨rfl,.inl ⟨rfl,rfl⟩⟩,bM6,oM6,bR6,oR6,hL6,hB6,O0,⟨kP _ _ _,fun _=>⟨D5 _,D5 _⟩,D5 _⟩⟩
 case round=>
  clear bM6 oM6 bR6 oR6 hL6 hB6 a6t a5D hMw;obtain ⟨k,xs,v,c,t,⟨hk1,hk2,hk3⟩,rfl,hown,C,J,bR,I,O,hB,hz,E⟩:=hrel;by_cases hlt:k<f.length
  · have ck:=O.2 k hlt;have hT:=HCS.out k;have a3Q:=fun x h=>uV (x:=x) E.out.1 hk1 hlt h;have a3R:=fun x c2 t2 h U hr=>UW (x:=x) (c2:=c2) (t2:=t2) E.out.1 hk1 hlt h U hr;have a3S:=fun x h U=>dU (x:=x) E.out.1 hk1 hlt h U;have a5E:=E.out.2;clear E;generalize f.getD k []=T at*;have a3Q:Hid _:=a3Q;have a3R:Hid _:=a3R;have a3S:Hid _:=a3S;have HXS:Hid _:=a5E;clear a5E
    go_wp2_with fail
    refine (a0R T _ hT).mono ?_;rintro e w7 ⟨⟨x,ok,rfl,hls,a6u⟩,hb7⟩;have HLL:=U0 hls;have a3q:=Vu hown hb7;have hz7:=hb7.size;have a6v:=hb7.mono hz;have R:=G7 hB hb7;have oa:∀ o,Below z wr (w7.alloc o):=fun o=>a6v.alloc O0 o;clear hls hb7 hown;unfold L4.v;cases ok
    · have ck7:∀ o,(w7.alloc o).cell? (aA g2 k)=some (vS (Y2 T)):=fun o=>((oa o).cell (p:=(aA g2 k)) hgB).trans ck;by_cases U:5<T.length
      · have h5':decide ((5:Int)<((Y2 T).size:Int))=true:=by rw [J5];simp;omega
        have h5n:5<=(Y2 T).size:=by rw [J5];omega
        have hex:(Y2 T).extract 5 (Y2 T).size=Y2 (T.drop 5):=qc (by rw [ext_list,J5,O9,u_ O0])
        go_wp2_with fail
        refine (aZ (T.drop 5) _ (by rw [Qj];omega)).mono ?_;rintro e w8 ⟨⟨c2,t2,rfl,hr8,ht8⟩,y⟩;have HSO:Hid (Nw f (k+1) xs c2 t2/\(∀ j,(xs.getD j O_).le 1048576)/\t2.size<=1048576):=⟨a3R.out x c2 t2 HLL.out U hr8,HXS.out.1,ht8⟩;have a4s:=(oa _).trans (y.mono U7);have a3M:=Vu (a3q.alloc _) y;have hB8:=(R.alloc R.size _).trans (y.mono (by have:=R.size;simp;omega));have hz8:wr.heap.size<=w8.heap.size:=by have h:=y.size;simp at h;omega
        have Z:=C.below a4s A;have V:=J.below a4s A;have k8:=Z 8 _ rfl;have f8:=V 8;have k9:=Z 9 _ rfl;have f9:=V 9;clear hr8 y a3Q a3R a3S;go_wp2;go_roundw
        case rel=>
         exact ⟨k+1,xs,v,c2,t2,⟨O0,O0,O0⟩,by go_num,Oy (Oy a3M (aA a 8) _ A) (aA a 9) _ A,(Z.set 8 (vI c2) (by show 8<10;omega)).set 9 (vS t2) (by show 9<10;omega),(V.set _ _).set _ _,((bR.below a4s X).other _ _ (by show a≠w.heap.size;omega)).other _ _ (by show a≠w.heap.size;omega),((I.below a4s X).set _ _).set _ _,⟨by have:=O.1;simp;omega,fun i r=>dP (q:=(aA a 9)) (p:=(aA g2 i)) (by show a≠g2;omega) (dP (q:=(aA a 8)) (p:=(aA g2 i)) (by show a≠g2;omega) ((a4s.cell (p:=(aA g2 i)) hgB).trans (O.2 i r)) _) _⟩,(hB8.setCell (by show w.heap.size<=a;omega) _).setCell (by show w.heap.size<=a;omega) _,U7,HSO⟩
        case measure=>simp [intOf];omega
      · have h5':decide ((5:Int)<((Y2 T).size:Int))=false:=by rw [J5];simp;omega
        have HSO:Hid (Nw f (k+1) xs c t/\(∀ j,(xs.getD j O_).le 1048576)/\t.size<=1048576):=⟨a3S.out x HLL.out U,HXS.out⟩;clear a3Q a3R a3S U;go_wp2;go_roundw
        case rel=>exact ⟨k+1,xs,v,c,t,⟨O0,O0,O0⟩,by go_num,a3q.alloc _,C.below (oa _) A,J.below (oa _) A,bR.below (oa _) X,I.below (oa _) X,⟨by have:=O.1;simp;omega,fun i r=>((oa _).cell (p:=(aA g2 i)) hgB).trans (O.2 i r)⟩,R.alloc R.size _,U7,HSO⟩
        case measure=>simp [intOf];omega
    · have HSO:Hid (Nw f (k+1) (xs++[x]) c t/\(∀ j,((xs++[x]).getD j O_).le 1048576)/\t.size<=1048576):=⟨a3Q.out x HLL.out,fun j=>by
       rcases o8 j xs.length with H | H
       · have:(xs++[x]).getD j O_=xs.getD j O_:=by
          simp only [Pj];rw [I_ H]
         rw [this];exact HXS.out.1 j
       · by_cases hj2:j=xs.length
         · have:(xs++[x]).getD j O_=x:=by
            simp only [Pj];rw [Cf H,hj2];simp
           rw [this];exact a6u
         · have:(xs++[x]).getD j O_=O_:=by
            simp only [Pj];rw [Ec U7];rfl
           rw [this];exact ⟨D5 _,D5 _⟩,HXS.out.2⟩
      clear a3Q a3R a3S;have k7a:=fun o=>C.below (oa o) A 7 _ rfl;have oaa:∀ o o',Below z wr ((w7.alloc o).alloc o'):=fun o o'=>(oa o).alloc U7 o'
      go_wp2_with (at_builtin;refine wpList_append_own _ rfl _ _ 102 rfl z 167 j0 (.agg #[.bool false,.string ⟨#[]⟩,.int .i64 0,.string ⟨#[]⟩]) 4 48 underlying102 H hy0 hy1 hy2 rfl O6 _ _ _ rfl ((a3q.alloc _).alloc _) ⟨w7.heap.size+1,0,none⟩ 1 1 [_,_,_,_] rfl rfl (KW I4 _ _ _ _ _) (by intro u hu;simp at hu;rcases hu with rfl | rfl | rfl | rfl <;> rfl) (by unfold maxLen;omega) O0 U7 ?_;intro v' w8 a3M hgrow _;have y:Below z wr w8:=(oaa _ _).grown hgrow U7 (fun j H=>(a3q.lt j H).1);have hB8:Bw w w8:=((R.alloc R.size _).alloc U7 _).grown hgrow U7 (fun j H=>by have:=(a3q.lt j H).1;omega);have hz8:w7.heap.size<=w8.heap.size:=(by have:=hgrow.size;simp at this;omega);clear hgrow;obtain ⟨g8,cp8,hv8⟩:=ql a3M O0;subst hv8;have Z:=C.below y A;have V:=J.below y A;have k7:=Z 7 _ rfl;have f7:=V 7)
      go_roundw
      case rel=>
       refine ⟨k+1,xs++[x],vL (some (aA g8 0)) (xs.length+1) cp8,c,t,⟨O0,O0,U7⟩,by go_num,?_,?_,V.set _ _,(bR.below y X).other _ _ (by show a≠w.heap.size;omega),(I.below y X).set _ _,⟨by have:=O.1;simp;omega,fun i r=>dP (q:=(aA a 7)) (p:=(aA g2 i)) (by show a≠g2;omega) ((y.cell (p:=(aA g2 i)) hgB).trans (O.2 i r)) _⟩,hB8.setCell (by show w.heap.size<=a;omega) _,U7,HSO⟩
       · rw [N9,iH];exact Oy a3M (aA a 7) _ A
       · exact Z.set 7 _ (by show 7<10;omega)
      case measure=>simp [intOf];omega
  · obtain rfl:k=f.length:=O0;have HX:=U0 (HXg q xs c t HTQ.out E.out.1);have hxl:=E.out.2.1;have htx:=E.out.2.2;obtain ⟨ao,Y,hv,hlk⟩:=kK hown rfl;subst hv;have a3d:∀ g o,ao=some (aA g o)->g≠w.heap.size:=fun g o h=>by
     subst h;have:=(hown.lt g rfl).1;omega
    have HM:X4 wr a ((Ag ⟨Y2 d,Y2 b,Y2 q⟩ xs c t).c ao Y):=C;have HR:=bR;have HO:=I;have hBU:=hB;have hMU:a<wr.heap.size:=O0;have hRU:w.heap.size<wr.heap.size:=O0;have HLK:I9 wr ao (Ag ⟨Y2 d,Y2 b,Y2 q⟩ xs c t).ls:=hlk.at';have hle:(Ag ⟨Y2 d,Y2 b,Y2 q⟩ xs c t).le 1048576:=⟨D5 _,D5 _,⟨by show (Y2 d).size<=1048576;rw [J5];omega,by show (Y2 b).size<=1048576;rw [J5];omega,by show (Y2 q).size<=1048576;rw [J5];omega⟩,⟨by show xs.length<=1048576;omega,hxl⟩,htx⟩;clear E hown hlk C J bR I O hB HXg hxl htx;generalize Ag ⟨Y2 d,Y2 b,Y2 q⟩ xs c t=XX at*
    go_wp2_with (refine Ia (by rfl) 105 (.tmp 4) rfl a rfl ((XX).c ao Y) _ HM underlying105 rfl J3 ?_)
    refine (zN (XX) ao Y _ hle HLK).mono ?_;rintro e U1 ⟨⟨str,rfl,hT⟩,W⟩;have HM1:=X4.below HM W hMU;have HR1:=X4.below HR W hRU;have HO1:=Y5.below HO W hRU;have hB1:=G7 hBU W;have a3e:=N7 HLK W;clear HM HR HO HLK hBU W;by_cases he:str.data.toList=s.data.toList
    · have HN:=U0 (Xp HX.out hT HNE.out he);have e2:str.toList=s.toList:=by rw [ByteArray.toList_eq,ByteArray.toList_eq];exact he
      have e1:(str.toList==s.toList)=true:=by simpa using e2
      clear hT HX he
      go_wp2_with (first | refine X9 rfl 105 (.tmp 4) rfl a rfl ((XX).c ao Y) _ HM1 underlying105 rfl J3 ?_ | refine J7 rfl 105 (.tmp 2) (.tmp 123) rfl w.heap.size 0 rfl ((XX).c ao Y) rfl (d_ HR1 _ rfl) HO1 (p_.lC _ _ _) J3 rfl ?_)
      exact bI (XX) ao Y true HN.out (fun h=>by cases h) hle (Nk _ a3e a3d) rfl rfl rfl HR1 hB1
    · have HN:=U0 (Eu HX.out hT he);have e2:¬ str.toList=s.toList:=by rw [ByteArray.toList_eq,ByteArray.toList_eq];exact he
      have e1:(str.toList==s.toList)=false:=by simpa using e2
      clear hT HX he
      go_wp2_with (refine J7 rfl 105 (.tmp 2) (.tmp 122) rfl w.heap.size 0 rfl zE rfl (d_ HR1 zE rfl) HO1 (by simp [zE,Value.oneCell']) J3 rfl ?_)
      exact Xj HN.out rfl rfl rfl HR1 hB1
