import Derived.Test.YtchjpjmcnhjbcaaGreatDooreEI
import Derived.Test.YtchjpjmcnhjbcaaGreatDooreEN
set_option linter.unusedVariables false
set_option maxHeartbeats 8000000
set_option maxRecDepth 100000
namespace Go.Proofs.YtchjpjmcnhjbcaaGreatDoor
open Proofs.Tryz Go.RowKit Go.Maps
variable {F l:List UInt8} {c:Int} {t:BY} {a:List (List UInt8)} {u w:World} {B k:Nat} {xs:List L4} {x:L4}
theorem flat3 {α:Type} (f:α->List Value) (hf:∀ a,(f a).length=3):∀ (l:List α) (k:Nat) (b:k<l.length) (j:Nat),j<3->(l.flatMap f)[k*3+j]?=(f (l[k]))[j]?
 | [],k,b,_,_=>absurd b (J8 _)
 | x::r,0,_,j,hj=>by
  rw [vg,S_ (by rw [hf];omega)];simp
 | x::r,k+1,b,j,hj=>by
  have c:=flat3 f hf r k (by simpa using b) j hj;rw [vg,Ue (by rw [hf];omega),hf];have e:(k+1)*3+j - 3=k*3+j:=O0;rw [e,c];simp
theorem UX (rs:List R3) (vs:List Value) (k:Nat) (a:k<rs.length):(rC rs vs)[k*3]?=some (.string (rs.getD k f_).key)/\(rC rs vs)[k*3+1]?=some (vs.getD k undef)/\(rC rs vs)[k*3+2]?=some (.string (rs.getD k f_).out):=by
 have h:=flat3 (fun i=>[Value.string (rs.getD i f_).key,vs.getD i undef,Value.string (rs.getD i f_).out]) (fun _=>rfl) (List.range rs.length) k (by simpa using a);have h0:=h 0 O0;have h1:=h 1 O0;have h2:=h 2 O0;simp only [List.getElem_range] at h0 h1 h2;exact ⟨h0,h1,h2⟩
theorem uF {W:World} {base:Nat} {a2:OA} {c2:Nat} {rs:List R3} {vs:List Value} (h:Fg W base (.slice a2 rs.length c2) rs vs):ug W a2 rs:=by
 have b:=h.row;rcases h.row.2 with ⟨hv,h0⟩ | ⟨g,cap,cur,hv,hg,f,_⟩
 · exact .inl (Va.1 h0)
 · simp only [Vq] at hv;obtain ⟨rfl,_,rfl⟩:=hv;refine .inr ⟨g,0,rfl,(r_.1 f).1,fun k d=>?_⟩;obtain ⟨l,j,a2⟩:=UX rs vs k d;obtain ⟨a,c,e,i⟩:=h.gl k d;refine ⟨a,c,?_,?_,?_,sJ i⟩
   · rw [L8,b.cellAt (k*3) O0];exact l
   · rw [L8,b.cellAt (k*3+1) O0,j,e]
   · rw [L8,b.cellAt (k*3+2) O0];exact a2
open Go.RowKit
theorem SK:Di.le 1048576:=⟨J4 _,J4 _,⟨J4 _,J4 _,J4 _⟩,⟨J4 _,fun _=>⟨J4 _,J4 _⟩⟩,J4 _⟩
theorem GZ (x:g_) (g:x.kd=2) (b:OA) (i:Nat) (w:World) (L:x.le 1048576) (N:o9 w b x.ls):
 Calls prog 142 #[.agg #[.int .i64 2,.int .i64 x.ep,.string x.fn,.string x.ft,.string x.km.nm,.string x.km.tl,.string x.km.ar,.slice b x.ls.length i,.int .i64 x.cd,.string x.tx]] w fun e w'=>qB (V8 x) (z_ x) e/\Bw w w':=by
 obtain ⟨f1,f2,⟨m1,m2,m3⟩,⟨hl,hs⟩,f3⟩:=L;have P:∀ o,Bw w (w.alloc o):=fun o=>P6;go_enter func142,ntmps142
 go_wp2_with fail
 refine (MO 2 x.ep x.cd 0 0 0 x.fn x.ft x.km.nm x.km.tl x.km.ar x.tx x.fn x.ft ⟨#[]⟩ ⟨#[]⟩ ⟨#[]⟩ ⟨#[]⟩ b none x.ls.length 0 i 0 _ hl O0).mono ?_;rintro e q ⟨⟨r,rfl,hr⟩,y⟩;have C:=U0 (hr.trans (a3b g));have f:Below (w.heap.size+1) (w.alloc (.cells #[vI 2,vI x.ep,vS x.fn,vS x.ft,vS x.km.nm,vS x.km.tl,vS x.km.ar,vL b x.ls.length i,vI x.cd,vS x.tx] 137)) q:=KD y;have j:=(P _).trans (f.mono O0);have k:=(Z7 w [vI 2,vI x.ep,vS x.fn,vS x.ft,vS x.km.nm,vS x.km.tl,vS x.km.ar,vL b x.ls.length i,vI x.cd,vS x.tx] 137).below f O0;have d:w.heap.size<q.heap.size:=by have h:=f.size;simp at h;omega
 clear hr y f;have n1:=k 2 _ rfl;have n2:=k 3 _ rfl;cases r
 · have l:Hid (qB (V8 x) (z_ x) (.returned vE)):=Xj (fun h=>absurd (C.out.2 ((xZ g).1 h).1) Xk);go_wp2;go_ret;exact ⟨l.out,j⟩
 · have D:=U0 (C.out.1 rfl)
   go_wp2_with fail
   refine (bU x.fn x.ft _ O0 O0).mono ?_;rintro e F ⟨⟨H,rfl,t⟩,a⟩;have B:=U0 t;have A:=X5 j a;have J:=(a.cell (p:=(aW w 2)) (by exact d)).trans n1;have I:=(a.cell (p:=(aW w 3)) (by exact d)).trans n2;have s:=O9 d a.size;clear t a n1 n2 d k j N;cases H
   · have l:Hid (qB (V8 x) (z_ x) (.returned vE)):=Xj (fun h=>absurd (B.out.2 ((xZ g).1 h).2) Xk);go_wp2;go_ret;exact ⟨l.out,A⟩
   · have c:=B.out.1 rfl;have Q:=U0 ((xZ g).2 ⟨D.out,c⟩);have n:=(uj c.1).2;have z1:x.fn.size<=20:=by simpa using n
     have z2:=ve x.ft;have z3:=c.2;have R:Hid ((⟨#[102,105,108,101,32]⟩:BY)++x.fn++⟨#[32]⟩++J3 (P5 x.ft.data.toList)++⟨#[10]⟩=J3 (z_ x)):=by show _=_;rw [a1G,<- D.out]
     have g0:¬ 9223372036854775807<5+x.fn.size:=O0;have g1':¬ 9223372036854775807<=5+x.fn.size:=O0;have g1:¬ 9223372036854775807<5+x.fn.size+1:=O0;have g2:¬ 9223372036854775807<5+x.fn.size+1+(J3 (P5 x.ft.data.toList)).size:=O0;have g3':¬ 9223372036854775807<=5+x.fn.size+1+(J3 (P5 x.ft.data.toList)).size:=O0;have g3:¬ 9223372036854775807<5+x.fn.size+1+(J3 (P5 x.ft.data.toList)).size+1:=O0;have g9:¬ (16000:Int)<5+(x.fn.size:Int)+1+((J3 (P5 x.ft.data.toList)).size:Int)+1:=O0;clear c n
     go_wp2_with fail
     refine wp_region_held_drew (S:=(fun u=>u.cell? (aW w 2)=some (vS x.fn)/\u.cell? (aW w 3)=some (vS x.ft))) Y2 ?_ fun hHeld=>?_
     · ((try dsimp only);go_keep)
     refine Y0 0 ?_;refine Y0 1 ?_;refine Y0 2 ?_;refine Y0 3 ?_;refine Y0 4 ?_;refine Y0 5 ?_;refine Y0 6 ?_;refine Y0 7 ?_;refine rq 8 fun K z=>?_;go_simp;refine (JG x.ft _ O0).mono ?_;rintro e E ⟨rfl,v⟩;have m:Hid (Bw F E):=((Z4 _ _).drew).trans v;have d2:=(m.out.cell (p:=(aW w 2)) (by exact s)).trans J;have d3:=(m.out.cell (p:=(aW w 3)) (by exact s)).trans I;clear v
     go_wp2_with fail
     clear hHeld;refine zH z fun hHeld=>?_;clear z K;refine Y0 9 ?_;refine Y0 10 ?_;refine Y0 11 ?_;refine wdn ?_;have O:=X5 A m.out;clear hHeld;go_wp2;go_ret;exact ⟨⟨_,rfl,.inl ⟨Q.out,R.out⟩⟩,O⟩
def TM (l:List UInt8) (x:L4) (ok:Bool):Prop:=(∀ y,Rh y->l=yc y->ok=true/\x=y)/\(aB l=false->ok=false)
def IY (l:List UInt8) (e:Ending):Prop:=∃ (x:L4) (ok:Bool),e=.returned (.tuple #[x.v,.bool ok])/\TM l x ok/\x.le 1048576
theorem mZ (h:aB l=false) (x:L4):TM l x false:=by
 refine ⟨fun y b e=>?_,fun _=>rfl⟩;obtain ⟨a,_⟩:=Sl b.1;rw [<- e] at a;rw [(Xr a).1] at h;cases h
theorem IW (h:aB l=true) (hr:OJ (Y1 (Y1 l)) c t):TM l ⟨Cj l,J3 (O1 (Y1 l)),c,t⟩ true:=by
 constructor
 · intro y f e;obtain ⟨a,b,d⟩:=Sl f.1;rw [<- e] at a b d;obtain ⟨h1,h2⟩:=hr _ _ (Ci f).1 (Ci f).2 d;refine ⟨rfl,?_⟩;rw [(Xr a).2,b,h1,h2];rfl
 · intro e;rw [h] at e;cases e
theorem a0J (l:List UInt8) (w:World) (hs:l.length<=16000):
 Calls prog 140 #[.string (J3 l)] w fun e w'=>IY l e/\Bw w w':=by
 have Z:Bw w (w.alloc (.cells #[.bool false,vE,vO,vE] 185)):=P6;have hr:=D8 l;have W:=D8 (Y1 l);have h1:=has_eq l;have h2:=lQ l;have Y:aB l=(Cj l || decide (O1 l=[97,115,107])):=rfl;go_enter func140,ntmps140
 go_wp2_with fail
 refine (Es l _ O0 2 O0 O0).mono ?_;rintro e m ⟨⟨g,cp,rfl,U,I⟩,V⟩;have z:m.cell? (aA g 0)=some (vS (J3 (O1 l))):=I.2 0 (by simp [A_]);have y:m.cell? (aA g 1)=some (vS (J3 (O1 (Y1 l)))):=I.2 1 (by simp [A_]);have x:=I.1;have O:Below (w.heap.size+1) (w.alloc (.cells #[.bool false,vE,vO,vE] 185)) m:=KD V;have hg2:w.heap.size<g:=by have h:=U;simp at h;omega
 have J:=Z.trans (O.mono O0);clear V I U;obtain ⟨F,H⟩:=qG (vs:=[.bool false,vE,vO,vE]) O;have N:aB l=false->Hid (IY l (.returned (.tuple #[.agg #[.bool false,vE,vO,vE],.bool false]))):=fun h=>⟨E_,false,rfl,mZ h _,⟨J4 _,J4 _⟩⟩;have n:aB l=true->∀ c t,OJ (Y1 (Y1 l)) c t->t.size<=1048576->Hid (IY l (.returned (.tuple #[.agg #[.bool (Cj l),vS (J3 (O1 (Y1 l))),vI c,vS t],.bool true]))):=fun h c t X ht=>⟨⟨Cj l,J3 (O1 (Y1 l)),c,t⟩,true,rfl,IW h X,⟨by show (J3 (O1 (Y1 l))).size<=1048576;rw [I5];omega,ht⟩⟩;have L:=c141 (Y1 (Y1 l));have Q:J3 (Q9 l 2)=J3 (Y1 (Y1 l)):=rfl;rw [Q];have P:(Y1 (Y1 l)).length<=16000:=O0;clear Q;generalize Y1 (Y1 l)=R at*;generalize J3 (O1 (Y1 l))=B at*;generalize decide (O1 l=[97,115,107])=a at*;generalize Cj l=h at*;generalize aB l=i at*;generalize J3 (O1 l)=s at*;have r:w.heap.size<m.heap.size:=by have h:=O.size;simp at h;omega
 subst Y;clear hr W;cases h
 · cases a
   · have o:=N rfl;clear N n L
     go_wp2_with (refine N7 rfl 185 (.tmp 2) (.tmp 21) rfl w.heap.size 0 rfl [.bool false,vE,vO,vE] rfl (V9 F _ rfl) H (by simp [Value.oneCell']) Y2 rfl ?_)
     have q:=D5.fill (B:=w.heap.size) [.bool false,vE,vO,vE] [] [.bool false,vE,vO,vE] [] 0 F rfl rfl;refine Y6 (v:=.tuple #[.agg #[.bool false,vE,vO,vE],.bool false]) (by exact U_ results140 _ _ w.heap.size _ _ _ rfl rfl q underlying185 rfl Y2) rfl ⟨o.out,by exact x_ H8 _ 0 J⟩
   · clear N
     go_wp2_with fail
     refine wp_region_held_drew (S:=(fun u=>u.cell? (aA g 0)=some (vS s)/\u.cell? (aA g 1)=some (vS B))) Y2 ?_ fun hHeld=>?_
     · exact ⟨z,y⟩
     refine Y0 0 ?_;refine Y0 1 ?_;refine Y0 2 ?_;refine Y0 3 ?_;refine Y0 4 ?_;refine Y0 5 ?_;refine Y0 6 ?_;refine Y0 7 ?_;refine rq 8 fun K d=>?_;go_simp;refine (L _ P).mono ?_;rintro e A ⟨⟨c,t,rfl,f,C⟩,j⟩;have b:Bw m A:=((Z4 _ _).drew).trans j;have k:=F.below b r;have D:=H.below b r;have E:=X5 J b;have o:=n (by first | rfl | trivial) c t f C;have e0:=(b.cell (p:=(aA g 0)) x).trans z;have e1:=(b.cell (p:=(aA g 1)) x).trans y;clear n f j b
     go_wp2_with fail
     clear hHeld;refine E8 d ?_ fun hHeld=>?_
     · exact ⟨e0,e1⟩
     clear d K;refine Y0 9 ?_;refine rq 10 fun K d=>?_;refine Ea rfl 185 (.tmp 2) (.tmp 31) rfl w.heap.size 0 rfl [.bool false,vS B,vI c,vS t] rfl (V9 k _ rfl) D (by simp [Value.oneCell']) Y2 rfl ?_;clear hHeld;refine E8 d ?_ fun hHeld=>?_
     · exact ⟨(M_ _ 0 (aA g 0) (by show g≠w.heap.size;omega)).trans e0,(M_ _ 0 (aA g 1) (by show g≠w.heap.size;omega)).trans e1⟩
     clear d K;refine Y0 11 ?_;refine wdn ?_;clear hHeld;go_wp2;have q:=D5.fill (B:=w.heap.size) [.bool false,vS B,vI c,vS t] [] [.bool false,vE,vO,vE] [] 0 k rfl rfl;refine Y6 (v:=.tuple #[.agg #[.bool false,vS B,vI c,vS t],.bool true]) (by exact U_ results140 _ _ w.heap.size _ _ _ rfl rfl q underlying185 rfl Y2) rfl ⟨o.out,by exact x_ H8 _ 0 E⟩
 · clear N;cases a
   · go_wp2_with fail
     refine wp_region_held_drew (S:=(fun u=>u.cell? (aA g 0)=some (vS s)/\u.cell? (aA g 1)=some (vS B))) Y2 ?_ fun hHeld=>?_
     · exact ⟨z,y⟩
     refine Y0 0 ?_;refine Y0 1 ?_;refine Y0 2 ?_;refine Y0 3 ?_;refine Y0 4 ?_;refine Y0 5 ?_;refine Y0 6 ?_;refine Y0 7 ?_;refine rq 8 fun K d=>?_;go_simp;refine (L _ P).mono ?_;rintro e A ⟨⟨c,t,rfl,f,C⟩,j⟩;have b:Bw m A:=((Z4 _ _).drew).trans j;have k:=F.below b r;have D:=H.below b r;have E:=X5 J b;have o:=n (by first | rfl | trivial) c t f C;have e0:=(b.cell (p:=(aA g 0)) x).trans z;have e1:=(b.cell (p:=(aA g 1)) x).trans y;clear n f j b
     go_wp2_with fail
     clear hHeld;refine E8 d ?_ fun hHeld=>?_
     · exact ⟨e0,e1⟩
     clear d K;refine Y0 9 ?_;refine rq 10 fun K d=>?_;refine Ea rfl 185 (.tmp 2) (.tmp 31) rfl w.heap.size 0 rfl [.bool true,vS B,vI c,vS t] rfl (V9 k _ rfl) D (by simp [Value.oneCell']) Y2 rfl ?_;clear hHeld;refine E8 d ?_ fun hHeld=>?_
     · exact ⟨(M_ _ 0 (aA g 0) (by show g≠w.heap.size;omega)).trans e0,(M_ _ 0 (aA g 1) (by show g≠w.heap.size;omega)).trans e1⟩
     clear d K;refine Y0 11 ?_;refine wdn ?_;clear hHeld;go_wp2;have q:=D5.fill (B:=w.heap.size) [.bool true,vS B,vI c,vS t] [] [.bool false,vE,vO,vE] [] 0 k rfl rfl;refine Y6 (v:=.tuple #[.agg #[.bool true,vS B,vI c,vS t],.bool true]) (by exact U_ results140 _ _ w.heap.size _ _ _ rfl rfl q underlying185 rfl Y2) rfl ⟨o.out,by exact x_ H8 _ 0 E⟩
   · go_wp2_with fail
     refine wp_region_held_drew (S:=(fun u=>u.cell? (aA g 0)=some (vS s)/\u.cell? (aA g 1)=some (vS B))) Y2 ?_ fun hHeld=>?_
     · exact ⟨z,y⟩
     refine Y0 0 ?_;refine Y0 1 ?_;refine Y0 2 ?_;refine Y0 3 ?_;refine Y0 4 ?_;refine Y0 5 ?_;refine Y0 6 ?_;refine Y0 7 ?_;refine rq 8 fun K d=>?_;go_simp;refine (L _ P).mono ?_;rintro e A ⟨⟨c,t,rfl,f,C⟩,j⟩;have b:Bw m A:=((Z4 _ _).drew).trans j;have k:=F.below b r;have D:=H.below b r;have E:=X5 J b;have o:=n (by first | rfl | trivial) c t f C;have e0:=(b.cell (p:=(aA g 0)) x).trans z;have e1:=(b.cell (p:=(aA g 1)) x).trans y;clear n f j b
     go_wp2_with fail
     clear hHeld;refine E8 d ?_ fun hHeld=>?_
     · exact ⟨e0,e1⟩
     clear d K;refine Y0 9 ?_;refine rq 10 fun K d=>?_;refine Ea rfl 185 (.tmp 2) (.tmp 31) rfl w.heap.size 0 rfl [.bool true,vS B,vI c,vS t] rfl (V9 k _ rfl) D (by simp [Value.oneCell']) Y2 rfl ?_;clear hHeld;refine E8 d ?_ fun hHeld=>?_
     · exact ⟨(M_ _ 0 (aA g 0) (by show g≠w.heap.size;omega)).trans e0,(M_ _ 0 (aA g 1) (by show g≠w.heap.size;omega)).trans e1⟩
     clear d K;refine Y0 11 ?_;refine wdn ?_;clear hHeld;go_wp2;have q:=D5.fill (B:=w.heap.size) [.bool true,vS B,vI c,vS t] [] [.bool false,vE,vO,vE] [] 0 k rfl rfl;refine Y6 (v:=.tuple #[.agg #[.bool true,vS B,vI c,vS t],.bool true]) (by exact U_ results140 _ _ w.heap.size _ _ _ rfl rfl q underlying185 rfl Y2) rfl ⟨o.out,by exact x_ H8 _ 0 E⟩
theorem nN (x:g_) (a:OA) (b:Nat) (w:World) (d:x.le 1048576) (f:o9 w a x.ls):
 Calls prog 142 #[.agg (x.c a b).toArray] w fun e w'=>qB (V8 x) (z_ x) e/\Bw w w':=by
 show Calls prog 142 #[.agg #[.int .i64 x.kd,.int .i64 x.ep,.string x.fn,.string x.ft,.string x.km.nm,.string x.km.tl,.string x.km.ar,.slice a x.ls.length b,.int .i64 x.cd,.string x.tx]] w _;by_cases h1:x.kd=1
 · have:=FY x h1 a b w d f;rw [h1];exact this
 by_cases h2:x.kd=2
 · have:=GZ x h2 a b w d f;rw [h2];exact this
 by_cases i:x.kd=3
 · have:=jY x i a b w d f;rw [i];exact this
 by_cases h:x.kd=4
 · have:=xY x h a b w d f;rw [h];exact this
 by_cases g:x.kd=5
 · have:=QY x g a b w d f;rw [g];exact this
 exact dU x a b w h1 h2 i h g
def RES (l:List UInt8) (x:g_) (ok:Bool):Prop:=(ok=true->V8 x/\z_ x=l/\∀ y,V8 y->z_ y=l->x=y)/\(ok=false->∀ y,V8 y->z_ y≠l)
def Is4 (l:List UInt8) (w':World) (e:Ending):Prop:=∃ (x:g_) (ok:Bool) (ai:OA) (ci:Nat),e=.returned (.tuple #[.agg (x.c ai ci).toArray,.bool ok])/\RES l x ok/\(ok=false->x=Di/\ai=none/\ci=0)/\x.le 1048576/\o9 w' ai x.ls
def wV (l:List UInt8) (x:g_):Prop:=∀ y,V8 y->z_ y=l->x=y
theorem Qp {a:BY} {x:g_} (hx:wV l x) (hT:(V8 x/\a=J3 (z_ x))\/(¬ V8 x/\a=⟨#[]⟩)) (hl:l≠[]) (he:a.data.toList=l):RES l x true:=by
 refine ⟨fun _=>?_,(fun h=>by cases h)⟩;rcases hT with ⟨h1,h2⟩ | ⟨h1,h2⟩
 · exact ⟨h1,by rw [<- he,h2];rfl,hx⟩
 · rw [h2] at he;exact absurd he.symm hl
theorem Yt {a:BY} {x:g_} (hx:wV l x) (hT:(V8 x/\a=J3 (z_ x))\/(¬ V8 x/\a=⟨#[]⟩)) (he:a.data.toList≠l):RES l Di false:=by
 refine ⟨(fun h=>by cases h),fun _ y b e=>?_⟩;have:=hx y b e;subst this;rcases hT with ⟨h1,h2⟩ | ⟨h1,h2⟩
 · apply he;rw [h2];exact e
 · exact h1 b
theorem KJ (h:l=[]\/16000<l.length):RES l Di false:=by
 refine ⟨(fun h=>by cases h),fun _ y a e=>?_⟩;have:=JK a;rw [e] at this;rcases h with h | h
 · rw [h] at this;simp at this
 · omega
theorem RI {a:Act} (x:g_) (b:OA) (d:Nat) (ok:Bool) (g:RES l x ok) (f:ok=false->x=Di/\b=none/\d=0) (hx:x.le 1048576) (h:o9 (fill u w.heap.size 0 (x.c b d)) b x.ls) (k:a.tmps.getD 2 undef=.pointer (some ⟨w.heap.size,0,none⟩)) (j:a.tmps.getD 3 undef=.bool ok) (hd:a.defers=[]) (hA:D5 u w.heap.size zE) (i:Bw w u):
 bodyPost prog Tryz.f95 (fun e w'=>Is4 l w' e/\Bw w w') .ret a (fill u w.heap.size 0 (x.c b d)):=by
 have m:=D5.fill (B:=w.heap.size) (x.c b d) [] zE [] 0 hA rfl rfl;exact Y6 (v:=.tuple #[.agg (x.c b d).toArray,.bool ok]) (U_ results95 _ _ w.heap.size _ _ _ k j m underlying137 rfl Y2) hd ⟨⟨x,ok,b,d,rfl,g,f,hx,h⟩,x_ H8 _ 0 i⟩
theorem Oj {a:Act} (b:RES l Di false) (f:a.tmps.getD 2 undef=.pointer (some ⟨w.heap.size,0,none⟩)) (d:a.tmps.getD 3 undef=.bool false) (hd:a.defers=[]) (hA:D5 u w.heap.size zE) (c:Bw w u):
 bodyPost prog Tryz.f95 (fun e w'=>Is4 l w' e/\Bw w w') .ret a (fill u w.heap.size 0 zE):=
 RI Di none 0 false b (fun _=>⟨rfl,rfl,rfl⟩) SK (.inl rfl) f d hd hA c
theorem Gl (vs:List Value) {c:OA} {is:List L4} (h:o9 u c is) (e:∀ g o,c=some ⟨g,o,none⟩->g≠B):o9 (fill u B 0 vs) c is:=by
 rcases h with h | ⟨b,off,h1,h2,f⟩
 · exact .inl h
 · refine .inr ⟨b,off,h1,by rw [Vf];exact h2,fun i d=>?_⟩;have a:=e b off h1;rw [M_ _ _ _ a,M_ _ _ _ a,M_ _ _ _ a,M_ _ _ _ a];exact f i d
theorem Tz {e size n:Nat} {v:Value} {xs:List Value} (h:w.ownsRow B e size v n xs) (p:Addr) (y:Value) (hp:p.block<B):(w.setCell p y).ownsRow B e size v n xs:=by
 refine ⟨h.1,?_⟩;rcases h.2 with h0 | ⟨g,c,cur,hv,b,a,r⟩
 · exact .inl h0
 · refine .inr ⟨g,c,cur,hv,b,?_,r⟩;rw [Go.Deep.blk_setCell_other w p y g O0];exact a
theorem Z_ {P:Program} {ops:Array Oper} {rest:List Oper} {o:Oper} {a:Act} {Q:Exit->Act->World->Prop} (hw:Region.wanted o (yielded ops a.tmps)=true) (ty:TypeId) (x:Operand) (ho:o.op=.load ty x)
 (B:Nat) (hx:a.eval x=.pointer (some ⟨B,0,none⟩)) (cs:List Value) (d:TypeDesc) (hc:D5 w B cs)
 (b:P.underlying ty=some d) (hd:(match d with | .struct _ | .array _ _=>true | _=>false)=true) (c:(P.info? ty).map (·.size)=some cs.length)
 (h:wpList P ops Q rest (a.put o.dst (.agg cs.toArray)) w):wpList P ops Q (o::rest) a w:=by
 refine wpList_step fun K e=>?_;rw [X7 hw];unfold Oper.wp execOp;simp only [ho,hx,Instr.loadAt,Instr.sureAddr,qi,Ro,ak,Ef w B ty cs d hc b hd c];exact e _ _ h
theorem Jk {y:g_} (a:V8 y) (e:z_ y=l):G8 10 l=X9 y++[[]]:=by
 rw [<- e];exact aG _ (nH a)
theorem zl {y:g_} (a:V8 y) (e:z_ y=l):O1 ((G8 10 l).getD 0 [])=dB y:=by
 rw [Jk a e];have d:X9 y≠[]:=by unfold X9;(repeat' split) <;> simp
 obtain ⟨f,b,c⟩:=List.exists_cons_of_ne_nil d;rw [c];exact (je a c.symm).1
theorem TQ (x:g_) (h1:O1 ((G8 10 l).getD 0 [])≠Wj) (h2:O1 ((G8 10 l).getD 0 [])≠Bd) (d:O1 ((G8 10 l).getD 0 [])≠Jh) (c:O1 ((G8 10 l).getD 0 [])≠Zg) (b:O1 ((G8 10 l).getD 0 [])≠Jg):wV l x:=by
 intro y a e;exfalso;have hw:=zl a e;unfold dB at hw;split at hw
 · exact h2 hw
 · split at hw
   · exact d hw
   · split at hw
     · exact c hw
     · split at hw
       · exact h1 hw
       · exact b hw
theorem a0G (hF:(G8 10 l).getD 0 []=F) (hw:O1 F=Bd):wV l (h_ (n29 (Y1 F))):=by
 intro y a e;have h1:=zl a e;rw [hF] at h1;obtain ⟨n,hn,rfl⟩:=Js a (Eh a (.inl rfl) h1 (by rw [hw];rfl));rw [Jk a e] at hF;have b:Bd++32::dec n=F:=hF;have hr:Y1 F=dec n:=by rw [<- b];exact (J7 o6).2
 rw [hr,KG O0 O0]
theorem a0F {t:List UInt8} (hF:(G8 10 l).getD 0 []=F) (hw:O1 F=Jh) (ht:∀ q,Y1 (Y1 F)=P5 q->t=q):wV l (Ib (J3 (O1 (Y1 F))) (J3 t)):=by
 intro y c e;have h1:=zl c e;rw [hF] at h1;obtain ⟨a,b,g,rfl⟩:=Xw c (Eh c (.inr (.inl rfl)) h1 (by rw [hw];rfl));rw [Jk c e] at hF;have h:Jh++32::(a.data.toList++32::P5 b.data.toList)=F:=hF;have hr:Y1 F=a.data.toList++32::P5 b.data.toList:=by rw [<- h];exact (J7 o6).2
 obtain ⟨f,d⟩:=J7 (r:=P5 b.data.toList) (L_ g.1).1;rw [<- hr] at f d;rw [f,ht _ d];rfl
theorem a1c (hF:(G8 10 l).getD 0 []=F) (hw:O1 F=Zg):wV l (Nb (J3 (Y1 F))):=by
 intro y b e;have h1:=zl b e;rw [hF] at h1;obtain ⟨a,hn,rfl⟩:=mr b (Eh b (.inr (.inr (.inl rfl))) h1 (by rw [hw];rfl));rw [Jk b e] at hF;have c:Zg++32::a.data.toList=F:=hF;have hr:Y1 F=a.data.toList:=by rw [<- c];exact (J7 o6).2
 rw [hr];rfl
theorem a0o (hF:(G8 10 l).getD 0 []=F) (hw:O1 F=Jg):wV l P_:=by
 intro y a e;have h1:=zl a e;rw [hF] at h1;exact (qA a (Eh a (.inr (.inr (.inr (.inr rfl)))) h1 (by rw [hw];rfl))).symm
def Jw (Ls:List (List UInt8)) (k:Nat) (xs:List L4) (c:Int) (t:BY):Prop:=∀ (f:List UInt8) (ys:List L4) (c':Int) (t':BY),Uf ys->vr c' t'.data.toList=true->Ls=f::(ys.map yc++[Cf++32::Za c' t',[]])->xs=ys.take (k - 1)/\(ys.length+1<k->c=c'/\t=t')
theorem dO (a:List (List UInt8)) (c:Int) (t:BY):Jw a 1 [] c t:=fun _ ys _ _ _ _ _=>⟨X4,fun h=>O0⟩
theorem uV (r:List UInt8):aB (Cf++32::r)=false:=by
 have:=(J7 (a:=Cf) (r:=r) o6).1;unfold aB Cj;rw [this];decide
theorem rD {f:List UInt8} {ys:List L4} {g:List UInt8} (hk1:1<=k) (b:k<a.length) (e:a=f::(ys.map yc++[g,[]])):
 (∃ h:k - 1<ys.length,a.getD k []=yc (ys[k - 1]))\/(k=ys.length+1/\a.getD k []=g)\/(k=ys.length+2/\a.getD k []=[]):=by
 subst e;obtain ⟨j,rfl⟩:∃ j,k=j+1:=⟨k - 1,O0⟩;have c:(f::(ys.map yc++[g,[]])).getD (j+1) []=(ys.map yc++[g,[]]).getD j []:=rfl;rw [c];simp only [o_,D9,Vd,Ee] at b;rcases Q7 j ys.length with hl | hl
 · refine .inl ⟨O0,?_⟩;rw [Fj,S_ (by simpa using hl)];simp [hl]
 · right;rw [Fj,Ue (by simpa using hl)];simp only [Vd];have:j - ys.length=0\/j - ys.length=1:=O0;rcases this with h | h
   · exact .inl ⟨O0,by rw [h];rfl⟩
   · exact .inr ⟨O0,by rw [h];rfl⟩
theorem ZW (h:Jw a k xs c t) (j:1<=k) (l:k<a.length) (hx:TM (a.getD k []) x true):Jw a (k+1) (xs++[x]) c t:=by
 intro f ys n g b hv e;obtain ⟨h1,h2⟩:=h f ys n g b hv e;rcases rD j l e with ⟨hl,e1⟩ | ⟨rfl,e1⟩ | ⟨rfl,e1⟩
 · have d:=b.2 _ hl;have m:ys.getD (k - 1) E_=ys[k - 1]:=by simp [hl]
   rw [m] at d;obtain ⟨_,i⟩:=hx.1 _ d e1;refine ⟨?_,fun h=>O0⟩;rw [h1,i,show k+1 - 1=(k - 1)+1 by omega,Ey hl]
 · have:=hx.2 (by rw [e1];exact uV _);cases this
 · have:=hx.2 (by rw [e1];decide);cases this
theorem oZ {c2:Int} {t2:BY} (h:Jw a k xs c t) (j:1<=k) (l:k<a.length) (hx:TM (a.getD k []) x false) (g:5<(a.getD k []).length) (hr:OJ ((a.getD k []).drop 5) c2 t2):Jw a (k+1) xs c2 t2:=by
 intro f ys n i b hv e;obtain ⟨h1,h2⟩:=h f ys n i b hv e;rcases rD j l e with ⟨hl,e1⟩ | ⟨rfl,e1⟩ | ⟨rfl,e1⟩
 · have d:=b.2 _ hl;have m:ys.getD (k - 1) E_=ys[k - 1]:=by simp [hl]
   rw [m] at d;have:=(hx.1 _ d e1).1;cases this
 · refine ⟨?_,fun _=>hr _ _ (Ug hv).1 (Ug hv).2 (by rw [e1];rfl)⟩;rw [h1,l_ O0,l_ O0]
 · rw [e1] at g;simp at g
theorem yU (h:Jw a k xs c t) (m:1<=k) (n:k<a.length) (hx:TM (a.getD k []) x false) (j:¬ 5<(a.getD k []).length):Jw a (k+1) xs c t:=by
 intro f ys d b g hv e;obtain ⟨h1,h2⟩:=h f ys d b g hv e;rcases rD m n e with ⟨hl,e1⟩ | ⟨rfl,e1⟩ | ⟨rfl,e1⟩
 · have i:=g.2 _ hl;have o:ys.getD (k - 1) E_=ys[k - 1]:=by simp [hl]
   rw [o] at i;have:=(hx.1 _ i e1).1;cases this
 · exfalso;rw [e1] at j;have l:Za d b≠[]:=qE _ _;have:0<(Za d b).length:=pq.2 l;apply j;simp only [D9,o_,Cf,Ee];omega
 · exact ⟨by rw [h1,l_ O0,l_ O0],fun _=>h2 O0⟩
theorem a0W {q:List UInt8} (hF:(G8 10 l).getD 0 []=F) (hw:O1 F=Wj) (z:∀ p,Q9 (Y1 F) 2=P5 p->q=p) (w:Jw (G8 10 l) (G8 10 l).length xs c t):wV l (og ⟨J3 (O1 (Y1 F)),J3 (O1 (Q9 (Y1 F) 1)),J3 q⟩ xs c t):=by
 intro y a e;have h1:=zl a e;rw [hF] at h1;obtain ⟨m,ls,h,d,⟨n1,n2,n3⟩,rfl⟩:=Yz a (Eh a (.inr (.inr (.inr (.inl rfl)))) h1 (by rw [hw];rfl));have hl:=Jk a e;have b:G8 10 l=(Wj++32::Oc m)::(ls.map yc++[Cf++32::Za h d,[]]):=by rw [hl];simp [X9,og]
 obtain ⟨f,o⟩:=w _ ls h d n2 n3 b;have hlen:(G8 10 l).length=ls.length+3:=by rw [b];simp
 obtain ⟨rfl,rfl⟩:=o O0;rw [l_ O0] at f;rw [b] at hF;have A:Wj++32::Oc m=F:=hF;have hr:Y1 F=Oc m:=by rw [<- A];exact (J7 o6).2
 obtain ⟨v,u,_⟩:=jh n1;rw [Ac] at hr;obtain ⟨n,k⟩:=J7 (r:=m.tl.data.toList++32::P5 m.ar.data.toList) (L_ v).1;obtain ⟨j,i⟩:=J7 (r:=P5 m.ar.data.toList) (L_ u).1;have g:Q9 (Y1 F) 1=m.tl.data.toList++32::P5 m.ar.data.toList:=by rw [hr];exact k
 have s:Q9 (Y1 F) 2=P5 m.ar.data.toList:=by
  show Y1 (Q9 (Y1 F) 1)=_;rw [g];exact i
 have x:=z _ s;rw [g,hr,n,j,x,f];rfl
