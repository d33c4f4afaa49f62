import Derived.Test.YtkccjgajimjjdaaGreatDoorwL
import Derived.Test.YtkccjgajimjjdaaGreatDoorzH
set_option linter.unusedVariables false
set_option maxHeartbeats 8000000
set_option maxRecDepth 100000
namespace Go.Proofs.YtkccjgajimjjdaaGreatDoor
open Proofs.Tryz Go.RowKit
variable{b:Bs}{e:Ending}{w:World}{a:OA}{α:Type}{vs:List Value}
def VSp(b:Bs)(r:Bool):Prop:=(r=false/\¬(Pre b/\1<=b.wd/\b.wd<=8))\/∃cd m,Out RES (b.sf++b.lo) b.wd cd m/\(r=true↔Pre b/\cd=0/\nP b m)
def VIm(b:Bs)(r:Bool):Prop:=(r=false/\¬Pre b)\/∃cd m,Out RE (b.sf++b.lo) b.wd cd m/\(r=true↔Pre b/\cd=0/\VM b m)
theorem PY{m:MS}:FV b m↔Upp b m:=by
 constructor
 ·rintro⟨h1,h2,e,ms,d,a,c⟩;exact⟨h1,h2,e,ms,d,a,(EQ a).1 c⟩
 rintro⟨h1,h2,e,ms,d,a,c⟩;exact⟨h1,h2,e,ms,d,a,(EQ a).2 c⟩
theorem qK{c a:Bool}(h1:VSp b c)(h2:VIm b a):c=a:=by
 rcases h1 with⟨rfl,h1⟩|⟨cd,m,o1,h1⟩
 ·rcases h2 with⟨rfl,_⟩|⟨cd,m,o2,h2⟩
  ·rfl
  cases a with
  | false=>rfl
  | true=>
   obtain⟨d,k2,_⟩:=h2.1 rfl;rcases o2.2 with⟨_,k,_⟩|⟨k,_⟩
   ·omega
   exact absurd ⟨d,k.1⟩ h1
 rcases h2 with⟨rfl,h2⟩|⟨cd',m',o2,h2⟩
 ·cases c with
  | false=>rfl
  | true=>exact absurd (h1.1 rfl).1 h2
 obtain⟨rfl,rfl⟩:=jL o1 o2;have e:nP b m'↔VM b m':=by
  unfold nP VM;rw[PY]
 rw[Bool.eq_iff_iff,h1,h2,e]
theorem a0C(h:(e=.returned (.bool false)/\¬(Pre b/\1<=b.wd/\b.wd<=8))\/∃cd m,Out RES (b.sf++b.lo) b.wd cd m/\Rb (Pre b/\cd=0/\nP b m) e):∃r,e=.returned (.bool r)/\VSp b r:=by
 rcases h with⟨rfl,h⟩|⟨cd,m,h1,r,rfl,h2⟩
 ·exact⟨_,rfl,.inl ⟨rfl,h⟩⟩
 exact⟨r,rfl,.inr ⟨cd,m,h1,h2⟩⟩
theorem a0x(h:(e=.returned (.bool false)/\¬Pre b)\/∃cd m,Out RE (b.sf++b.lo) b.wd cd m/\Rb (Pre b/\cd=0/\VM b m) e):∃r,e=.returned (.bool r)/\VIm b r:=by
 rcases h with⟨rfl,h⟩|⟨cd,m,h1,r,rfl,h2⟩
 ·exact⟨_,rfl,.inl ⟨rfl,h⟩⟩
 exact⟨r,rfl,.inr ⟨cd,m,h1,h2⟩⟩
def bs0:Bs:=⟨0,false,0,0,0,[],[],[],⟨0,[],[]⟩,[],[],[],[]⟩
def ba0:Ba:=⟨none,0,none,0,none,0,none,0,none,0,none,0,none,0,none,0,none,0⟩
theorem UY(A:Nat)(w:World):nG A w bs0 ba0:=
 { sf:=Y_ _ _ _ _,lo:=Y_ _ _ _ _,fs:=⟨.inl rfl,.inl rfl⟩,st:=⟨Y_ _ _ _ _,[],rfl,Y_ _ _ _ _,(λi a=>absurd a (y9 _)),(λi j a=>absurd a (y9 _))⟩,hd:=Y_ _ _ _ _,rt:=Y_ _ _ _ _,rn:=⟨[],rfl,Y_ _ _ _ _,(λi a=>absurd a (y9 _)),(λ_ _=>rfl),(λi j a=>absurd a (y9 _))⟩,jb:=Y_ _ _ _ _,n1:=λ_ h=>(by cases h),n2:=λ_ h=>(by cases h),n3:=λ_ h=>(by cases h),n4:=λ_ h=>(by cases h),n5:=λ_ h=>(by cases h),n6:=λ_ h=>(by cases h) }
def OB(R:List UInt8->z_->Bool->Prop)(b:Bs)(r:Bool)(b':Bs):Prop:=if r then(if b.up then b'=b else ∃cd m,Out R (b.sf++b.lo) b.wd cd m/\b'=Uj b m) else b'=bs0
theorem c7(b:Bs)(q:Ba)(w:World)(hl:Ug b 1048576)(s:b.sf.length+b.lo.length<=1048576)(C:ER b q)(hv:G.Uo w)(t:Pow w)(u:Gh w b q):
 Calls prog 7 #[.agg (bsV b q).toArray] w λe w'=>(∃r b' g,VIm b r/\OB RE b r b'/\e=.returned (.agg (bsV b' g).toArray)/\nG w.heap.size w' b' g)/\Bw w w':=by
 have o:=U0 u;have l:=U0 hl;have A:=U0 hv;have D:=U0 t;clear u hl hv t
 go_in
 go_upto_region 1 with fail
 have H:Hid (BX w (bsV b q) ((w.alloc (.cells (bsV b q).toArray 47)).alloc (.cells bz.toArray 47))):=⟨U8 (X4 w (bsV b q) 47) _,Ei (xs:=bz) E5,Y6.alloc E5 _,E5⟩;generalize (w.alloc (.cells (bsV b q).toArray 47)).alloc (.cells bz.toArray 47)=V at*
 go_wp2_with(refine H8 H.out.h0 rfl 47 _ rfl (j:=0) (bsV b q) rfl rfl underlying47 rfl Y1 ?_)
 refine(lW b q V l.out s C (A.out.below H.out.bw) (o.out.below H.out.bw)).mono ?_;rintro e V1⟨v,a⟩;obtain⟨r,rfl,hr⟩:=a0x v;have n:=U0 hr
 replace H:=U0 (H.out.call a)
 clear a v hr;cases r
 ·go_wp2_with(refine I7 rfl 47 _ _ rfl (j:=0) rfl rfl H.out.h1 X7 (Y5 rfl) Y1 ?_;intro z i f)
  exact Q7 (J7 (P:=prog) (ty:=47) rfl _ z (w.heap.size+1) bz _ rfl i.blk underlying47 rfl Y1) rfl ⟨⟨false,bs0,ba0,n.out,rfl,rfl,UY _ _⟩,H.out.bw.trans (f.below O0)⟩
 go_upto_region 3 with fail
 by_cases c:b.up=true
 ·replace c:=U0 c
  go_upto_region 4 with(refine N8 H.out.h0 rfl _ _ rfl rfl (l7 (λx=>some (Value.bool x)) c.out) Y1 ?_)
  go_wp2_with(refine H8 H.out.h0 rfl 47 _ rfl (j:=0) (bsV b q) rfl rfl underlying47 rfl Y1 ?_)
  refine(c31 b q V1 l.out (o.out.below H.out.bw)).mono ?_;rintro e y⟨⟨g,rfl,d⟩,a⟩;have k:=U0 d;have hz:=H.out.hz
  replace H:=U0 (H.out.call a)
  clear d a
  go_wp2_with(refine I7 rfl 47 _ _ rfl (j:=0) rfl rfl H.out.h1 X7 (Y5 rfl) Y1 ?_;intro z i f)
  exact Q7 (J7 (P:=prog) (ty:=47) rfl _ z (w.heap.size+1) (bsV b g) _ rfl i.blk underlying47 rfl Y1) rfl ⟨⟨true,b,g,n.out,by simp[OB,c.out],rfl,k.out.mv (.on f (.inl (by omega))) (by omega)⟩,H.out.bw.trans (f.below O0)⟩
 replace c:=U0 (Ji.2 c)
 go_upto_region 5 with(refine N8 H.out.h0 rfl _ _ rfl rfl (l7 (λx=>some (Value.bool x)) c.out) Y1 ?_)
 go_wp2_with(refine H8 H.out.h0 rfl 47 _ rfl (j:=0) (bsV b q) rfl rfl underlying47 rfl Y1 ?_)
 refine(c31 b q V1 l.out (o.out.below H.out.bw)).mono ?_;rintro e y⟨⟨B,rfl,d⟩,a⟩;have k:=U0 d;have hz:=H.out.hz;have h:=U0 a;clear d a
 go_wp2_with fail
 refine(c32 V1.heap.size b B y h.out.size l.out s (Q9 A.out.vr.mx (J5 H.out.bw h.out)) (Ir D.out (J5 H.out.bw h.out)) k.out).mono ?_;rintro e V3⟨⟨cd,m,p,ho,rfl,d⟩,a⟩
 replace H:=U0 (H.out.call (h.out.trans a))
 replace k:=U0 d
 have E:=U0 ho;clear d ho a h;have F:Hid (OB RE b true (Uj b m)):=U0 (by simp only[OB,c.out];exact⟨cd,m,E.out,rfl⟩);generalize Uj b m=b' at*
 go_wp2_with(refine I7 rfl 47 _ _ rfl (j:=0) rfl rfl H.out.h1 X7 (Y5 rfl) Y1 ?_;intro z i f)
 exact Q7 (J7 (P:=prog) (ty:=47) rfl _ z (w.heap.size+1) (bsV b' p) _ rfl i.blk underlying47 rfl Y1) rfl ⟨⟨true,b',p,n.out,F.out,rfl,k.out.mv (.on f (.inl (by omega))) (by omega)⟩,H.out.bw.trans (f.below O0)⟩
theorem c67(a:OA)(fs:List T.F2)(c:Nat)(w:World)(hn:fs.length<=1048576)(h:T.G6 w a fs):
 Calls prog 67 #[.agg #[.slice a fs.length c]] w λe w'=>(∃v,e=.returned (.agg #[v])/\w'.ownsRow w.heap.size 67 2 v fs.length (T.U3 fs))/\Bw w w':=by
 have u:=U0 (jD c h);clear h
 go_in
 go_upto_region 1 with fail
 have n:Hid (Cl ((w.alloc (.cells #[.slice a fs.length c] 40)).alloc (.cells #[.slice none 0 0] 40)) w.heap.size 40 [.slice a fs.length c]):=U8 (X4 w [_] 40) _;have m:Hid (Cl ((w.alloc (.cells #[.slice a fs.length c] 40)).alloc (.cells #[.slice none 0 0] 40)) (w.heap.size+1) 40 [.slice none 0 0]):=Ei (xs:=[_]) E5;have p:Hid (Bw w ((w.alloc (.cells #[.slice a fs.length c] 40)).alloc (.cells #[.slice none 0 0] 40))):=Y6.alloc E5 _;have hz:w.heap.size+2<=((w.alloc (.cells #[.slice a fs.length c] 40)).alloc (.cells #[.slice none 0 0] 40)).heap.size:=E5;generalize (w.alloc (.cells #[.slice a fs.length c] 40)).alloc (.cells #[.slice none 0 0] 40)=V at*;obtain⟨W,f⟩:∃W,W=V.alloc (.cells #[] 67):=⟨_,rfl⟩;have b:=f▸Y6;have i:Hid (W.ownsRow V.heap.size 67 2 (.slice (some ⟨V.heap.size,0,none⟩) 0 0) 0 []):=U0 (f▸row0 V 67 2 rfl (J8 _));have x:=U0 (n.out.below b n.out.lt)
 go_wp2_with(first|(rw[<- f];refine N8 x.out rfl 38 _ rfl rfl rfl Y1 ?_)|(at_builtin;refine Vd rfl _ _ 38 rfl V.heap.size 67 2 underlying38 (Zc Y1) Z5 _ 0 [] rfl i.out _ fs.length (T.U3 fs) rfl (u.out _ (J5 p.out b)) T.He O0 b.size ?_;intro v1 y1 d g1 _;rw[o9,j_]at d;obtain⟨a1,t,rfl⟩:=D9 d;have o:=U0 (W_ b g1 b.size (λk e=>Z4 i.out e));have l:=U0 d;clear d g1)|(refine I7 rfl 40 _ _ rfl (j:=0) rfl rfl (m.out.below o.out m.out.lt) X7 (Y5 rfl) Y1 ?_;intro z s g))
 refine Q7 (J7 (P:=prog) (ty:=40) rfl _ z (w.heap.size+1) [.slice a1 fs.length t] _ rfl s.blk underlying40 rfl Y1) rfl ⟨⟨_,rfl,?_⟩,(J5 p.out o.out).trans (g.below O0)⟩;exact P7 (I5 l.out (λq r=>g.block q (by have:=Z4 l.out r;omega))) O0
theorem c69(x:Rn)(a:OA)(c:Nat)(w:World)(hn:x.ls.length<=1048576)(h:S9 w a x.ls):
 Calls prog 69 #[.agg (Ph (x,.slice a x.ls.length c)).toArray] w λe w'=>(∃B A,e=.returned (.agg (Ph (x,.slice B x.ls.length A)).toArray)/\w'.ownsRow w.heap.size 138 4 (.slice B x.ls.length A) x.ls.length (x.ls.flatMap ny))/\Bw w w':=by
 have I:=U0 (wC c h);clear h
 go_in
 go_upto_region 1 with fail
 have d:Hid (Cl ((w.alloc (.cells (Ph (x,.slice a x.ls.length c)).toArray 111)).alloc (.cells #[.string ⟨#[]⟩,.int .i64 0,.string ⟨#[]⟩,.slice none 0 0,.int .i64 0,.string ⟨#[]⟩] 111)) w.heap.size 111 (Ph (x,.slice a x.ls.length c))):=U8 (X4 w (Ph (x,.slice a x.ls.length c)) 111) _;have r:Hid (Cl ((w.alloc (.cells (Ph (x,.slice a x.ls.length c)).toArray 111)).alloc (.cells #[.string ⟨#[]⟩,.int .i64 0,.string ⟨#[]⟩,.slice none 0 0,.int .i64 0,.string ⟨#[]⟩] 111)) (w.heap.size+1) 111 (Ph (A_,.slice none 0 0))):=Ei (xs:=Ph (A_,.slice none 0 0)) E5;have F:Hid (Bw w ((w.alloc (.cells (Ph (x,.slice a x.ls.length c)).toArray 111)).alloc (.cells #[.string ⟨#[]⟩,.int .i64 0,.string ⟨#[]⟩,.slice none 0 0,.int .i64 0,.string ⟨#[]⟩] 111))):=Y6.alloc E5 _;have hz:w.heap.size+2<=((w.alloc (.cells (Ph (x,.slice a x.ls.length c)).toArray 111)).alloc (.cells #[.string ⟨#[]⟩,.int .i64 0,.string ⟨#[]⟩,.slice none 0 0,.int .i64 0,.string ⟨#[]⟩] 111)).heap.size:=E5;generalize (w.alloc (.cells (Ph (x,.slice a x.ls.length c)).toArray 111)).alloc (.cells #[.string ⟨#[]⟩,.int .i64 0,.string ⟨#[]⟩,.slice none 0 0,.int .i64 0,.string ⟨#[]⟩] 111)=V at*;obtain⟨W,m⟩:∃W,W=V.alloc (.cells #[] 138):=⟨_,rfl⟩;have b:=m▸Y6;have C:Hid (W.ownsRow V.heap.size 138 4 (.slice (some ⟨V.heap.size,0,none⟩) 0 0) 0 []):=U0 (m▸row0 V 138 4 rfl (J8 _));have E:=U0 (d.out.below b d.out.lt);have J:=U0 (Ou (is:=x.ls) (f:=ny) (λx v hv=>by simp[ny]at hv;rcases hv with rfl|rfl|rfl|rfl<;>rfl))
 go_upto_region 2 with(first|(rw[<- m];refine N8 E.out rfl 70 _ rfl rfl rfl Y1 ?_)|(at_builtin;refine Vd rfl _ _ 70 rfl V.heap.size 138 4 underlying70 (Zc Y1) Z5 _ 0 [] rfl C.out _ x.ls.length (x.ls.flatMap ny) rfl (I.out _ (J5 F.out b)) J.out O0 b.size ?_;intro v1 y1 i g1 _;rw[o9,j_]at i;obtain⟨a1,n,rfl⟩:=D9 i;have s:=U0 (W_ b g1 b.size (λk e=>Z4 C.out e));have o:=U0 i;clear i g1)|(refine Cc rfl 70 _ _ rfl (p:=3) rfl rfl Y1 (d.out.below s.out d.out.lt) (show 3<6 by decide) ?_;intro z u g))
 have K:Hid (Cl z w.heap.size 111 (Ph (x,.slice a1 x.ls.length n))):=u;have L:=U0 ((r.out.below s.out r.out.lt).on g O0);have D:=U0 (I5 o.out (λq l=>g.block q (by have:=Z4 o.out l;omega)));have N:=U0 ((J5 F.out s.out).trans (g.below (J8 _)));clear u g o d r E
 go_wp2_with(first|(refine H8 K.out rfl 111 _ rfl (j:=0) (Ph (x,.slice a1 x.ls.length n)) rfl rfl underlying111 rfl Y1 ?_)|(refine I7 rfl 111 _ _ rfl (j:=0) rfl rfl L.out X7 (Y5 rfl) Y1 ?_;intro y H t))
 refine Q7 (J7 (P:=prog) (ty:=111) rfl _ y (w.heap.size+1) (Ph (x,.slice a1 x.ls.length n)) _ rfl H.blk underlying111 rfl Y1) rfl ⟨⟨_,_,rfl,?_⟩,N.out.trans (t.below O0)⟩;exact P7 (I5 D.out (λq l=>t.block q (by have:=Z4 D.out l;omega))) O0
theorem VX{is:List G3}(c:Nat)(h:R_ w a is):∀u,Bw w u->Src u (.slice a is.length c) 3 is.length (gC is):=
 Ro (d:=zh) (f:=wP) c (λ_=>rfl) Z5 (h.imp id λ⟨b,off,h1,h2,m⟩=>⟨b,off,h1,h2,λi l q v e=>by
  obtain⟨k,j,g⟩:=m i l
  match q,e with
  | 0,e=>injection e with e;subst e;exact k
  | 1,e=>injection e with e;subst e;exact j
  | 2,e=>injection e with e;subst e;exact g⟩)
theorem a4l(s:St)(ta ra:OA)(tc rc:Nat)(w:World)(p:s.ts.length<=1048576)(q:s.rs.length<=1048576)(r:∀i,(s.rs.getD i h_).gs.length<=1048576)(f:Ef w ta ra s):
 Calls prog 68 #[.agg #[.int .i64 s.wd,.slice ta s.ts.length tc,.slice ra s.rs.length rc]] w λe w'=>(∃tv rv,e=.returned (.agg #[.int .i64 s.wd,tv,rv])/\Z_ w' w.heap.size s.ts s.rs tv rv)/\Bw w w':=by
 refine(a1P s ta ra tc rc w p q r (λu a=>Vu f.1 a) λu a k d=>?_).mono ?_
 ·rcases f.2 with h0|⟨b,off,h1,h2,v⟩
  ·rw[h0]at d;exact absurd d (y9 _)
  obtain⟨x,j,o,n,m,l⟩:=v k d;exact⟨b,off,x,j,h1,U9 h2 a.size,(a.cell (by exact h2)).trans o,(a.cell (by exact h2)).trans n,(a.cell (by exact h2)).trans m,λz hz=>VX j l z (J5 a hz)⟩
 rintro e w'⟨⟨g,c,ra',rc',rfl,h⟩,t⟩;exact⟨⟨_,_,rfl,h⟩,t⟩
theorem dY{E:α×Value->List Value}{d x:α}{is:List α}{y:Value}(hl:vs.length=is.length):cE E d (is++[x]) (vs++[y])=cE E d is vs++E (x,y):=by
 unfold cE;rw[P9,show [x].length=1 from rfl,Uy,Qs]
 congr 1
 ·rw[wE,wE];refine l7 List.flatten (Tz λi a=>?_);have:=Ip.1 a;rw[show(is++[x]).getD i d=is.getD i d from by simp[List.getD,G_ this],show(vs++[y]).getD i undef=vs.getD i undef from by simp[List.getD,G_ (show i<vs.length by omega)]]
 simp[List.getD,<- hl]
theorem YB.push{β:Type}{E:α×Value->List Value}{d x:α}{inn:α->List β}{f:β->List Value}{T m TI mi N c k:Nat}{l:OA}{is:List α}{v':Value}{u u2 u':World}(h:YB E d inn f T m TI mi N is [] (.slice a is.length c) is.length vs w)(hT:TI≠T)(B:N<=w.heap.size)(v:Bw w u)(ho:u.ownsRow w.heap.size TI mi (.slice l (inn x).length k) (inn x).length ((inn x).flatMap f))(s:Bw u u2)(g:u2.grownBy u' (Value.slice a is.length c).ownBlock)(O:u'.ownsRow N T m v' (is.length+1) (cE E d is vs++E (x,.slice l (inn x).length k))):YB E d inn f T m TI mi N (is++[x]) [] v' (is++[x]).length (vs++[.slice l (inn x).length k]) u':=by
 have H:=own_below (own_below h.row v) s;have kp:∀{y:Value}{M n:Nat}{xs:List Value},u2.ownsRow M TI mi y n xs->u'.ownsRow M TI mi y n xs:=λo=>I5 o (λq b=>g.block q (X9 o b) (λe=>hT (Z8 (N7 o b) (N7 H e.symm))));have r:∀i,i<is.length->(vs++[Value.slice l (inn x).length k]).getD i undef=vs.getD i undef:=λi p=>by simp[List.getD,G_ (show i<vs.length by rw[h.len];exact p)]
 have D:∀i,i<is.length->(is++[x]).getD i d=is.getD i d:=λi p=>by simp[List.getD,G_ p]
 have t:(vs++[Value.slice l (inn x).length k]).getD is.length undef=.slice l (inn x).length k:=by simp[List.getD,<- h.len]
 have C:(is++[x]).getD is.length d=x:=by simp[List.getD]
 have hl:(is++[x]).length=is.length+1:=by simp
 have fr:∀i,i<is.length->∀q,(vs.getD i undef).ownBlock=some q->q<w.heap.size:=λi p q b=>by
  obtain⟨a1,z,e,o⟩:=h.gl i p;rw[e]at b;exact X9 o b
 rw[hl];refine⟨by rw[P9,P9,h.len]; rfl,?_,λi p=>?_,λi p=>?_,λi j p hj A=>?_⟩
 ·rw[dY h.len,hl];exact O
 ·by_cases e:i=is.length
  ·subst e;rw[t,C];exact⟨l,k,rfl,P7 (kp (own_below ho s)) B⟩
  rw[r i (by omega),D i (by omega)];obtain⟨a1,z,e1,o⟩:=h.gl i (by omega);exact⟨a1,z,e1,kp (own_below (own_below o v) s)⟩
 ·have h1:(vs++[Value.slice l (inn x).length k]).length<=i:=by simp[h.len];omega
  simp[List.getD,Zb h1]
 by_cases e:i=is.length
 ·subst e;rw[t,r j (by omega)]
  cases b:(Value.slice l (inn x).length k).ownBlock with
  | none=>exact .inl rfl
  | some q=>exact .inr λe=>by have:=fr j (by omega) q e.symm;have:=Z4 ho b;omega
 rw[r i (by omega)];by_cases F:j=is.length
 ·subst F;rw[t]
  cases b:(vs.getD i undef).ownBlock with
  | none=>exact .inl rfl
  | some q=>exact .inr λe=>by have:=fr i (by omega) q b;have:=Z4 ho e.symm;omega
 rw[r j (by omega)];exact h.apart i j (by omega) (by omega) A
structure aC(w:World)(M:Nat)(X0 X:List Value)(V:World):Prop where
 h0:Cl V w.heap.size 47 X0
 h1:Cl V (w.heap.size+1) 47 bz
 h2:Cl V M 47 X
 bw:Bw w V
 hM:w.heap.size+2<=M
section
variable{w V u z u':World}{M A n m:Nat}{X0 X X' xs ys:List Value}{v1 v5 v':Value}
theorem aC.call(h:aC w M X0 X V)(a:Bw V u):aC w M X0 X u:=⟨h.h0.below a h.h0.lt,h.h1.below a h.h1.lt,h.h2.below a h.h2.lt,J5 h.bw a,h.hM⟩
theorem aC.st(h:aC w M X0 X V)(b:Cl z M 47 X')(a:Jr M V z):aC w M X0 X' z:=have hM:=h.hM;⟨h.h0.on a O0,h.h1.on a O0,b,h.bw.trans (a.below O0),hM⟩
theorem Yo(h:NE v1 v5):NE v5 v1:=λp h1 h2=>h p h2 h1
theorem KI(h:u.ownsRow A 9 1 v5 n xs):NE (.slice (some ⟨u.heap.size,0,none⟩) 0 0) v5:=λp h1 h2=>by
 have:=X9 h h2;injection h1 with h1;have h1:u.heap.size=p:=h1;omega
theorem XI(h:NE v1 v5)(k:u.ownsRow A 9 1 v5 n xs)(e:v'.ownBlock=v1.ownBlock\/v'.ownBlock=some u.heap.size):NE v' v5:=λp h1 h2=>by
 rcases e with e|e
 ·exact h p (e▸h1) h2
 have:=X9 k h2;rw[e]at h1;injection h1 with h1;have h1:u.heap.size=p:=h1;omega
theorem bK(k:u.ownsRow A 9 1 v5 n xs)(h:NE v1 v5)(g:u.grownBy u' v1.ownBlock):u'.ownsRow A 9 1 v5 n xs:=I5 k (λp a=>g.block p (X9 k a) (λe=>h p e.symm a))
end
theorem c19(b:Bs)(q:Ba)(w:World)(hl:Ug b 1048576)(hat:Gh w b q):
 Calls prog 19 #[.agg (bsV b q).toArray] w λe w'=>(∃q',e=.returned (.agg (bsV b q').toArray)/\nG w.heap.size w' b q')/\Bw w w':=by
 have HA:=U0 hat;have HL:=U0 hl;clear hat hl
 go_in
 go_upto_region 1 with fail
 have H:Hid (BX w (bsV b q) ((w.alloc (.cells (bsV b q).toArray 47)).alloc (.cells bz.toArray 47))):=⟨U8 (X4 w (bsV b q) 47) _,Ei (xs:=bz) E5,Y6.alloc E5 _,E5⟩;generalize (w.alloc (.cells (bsV b q).toArray 47)).alloc (.cells bz.toArray 47)=V at*;have a:Hid (aC w V.heap.size (bsV b q) bz (V.alloc (.cells bz.toArray 47))):=have h:=H.out.call Y6;⟨h.h0,h.h1,X4 V bz 47,h.bw,H.out.hz⟩
 go_upto_region 2 with(first|(refine H8 H.out.h0 rfl 47 _ rfl (j:=0) (bsV b q) rfl rfl underlying47 rfl Y1 ?_)|(refine I7 rfl 47 _ _ rfl (j:=0) rfl rfl a.out.h2 X7 (Y5 rfl) Y1 ?_;intro z n l))
 replace a:Hid (aC w V.heap.size (bsV b q) (bsV b q) z):=a.out.st n l
 clear n l H;generalize V.heap.size=M at*;have HM:Hid (M+1<=z.heap.size):=a.out.h2.lt;have hll:=HL.out.ll;have hsl:=HL.out.sl
 try simp only[qq]
 go_cut[3] from 3 (λs3 wx=>∃a1 D E c5,s3=.pointer (some ⟨M,0,none⟩)/\Hid (aC w M (bsV b q) (bsV b {q with sa:=a1,sc:=D,la:=E,lc:=c5}) wx)/\Hid (Kt (M+1) wx (λu=>u.ownsRow (M+1) 9 1 (.slice a1 b.sf.length D) b.sf.length (b.sf.map .string)/\u.ownsRow (M+1) 9 1 (.slice E b.lo.length c5) b.lo.length (b.lo.map .string)))/\Hid (NE (.slice a1 b.sf.length D) (.slice E b.lo.length c5)))
 case first=>
  have U:Hid (∀u,Bw z u->u.cell? ⟨w.heap.size,5,none⟩=some (.slice q.sa b.sf.length q.sc)/\u.cell? ⟨w.heap.size,6,none⟩=some (.slice q.la b.lo.length q.lc)):=λu hu=>have h:=(a.out.call hu).h0;⟨h.cell 5,h.cell 6⟩
  have g:Bw z z.drew:=(G5 _ _).drew;refine FI U g Y1 λhH=>?_;generalize z.drew=y at*;refine tq 1 hH ?_;refine tq 2 hH ?_;refine tq 3 hH ?_;refine tq 6 hH ?_;refine tq 7 hH ?_;refine p_ 8 ?_;refine wpAnyH_ready (rs:=[0, 5]) Y1 E5 (AllReadyH.cons (o:=⟨some 6,.buildSlice 22 0 #[],22,_,_,none⟩) rfl (λK d=>?_) (AllReadyH.cons (o:=⟨some 11,.buildSlice 22 0 #[],22,_,_,none⟩) rfl (λK d=>?_) AllReadyH.nil))
  focus
   go_simp;obtain⟨Y0,C⟩:∃Y0:World,Y0=y.alloc (.cells #[] 9):=⟨_,rfl⟩;have A:Hid (Y0.ownsRow z.heap.size 9 1 (.slice (some ⟨y.heap.size,0,none⟩) 0 0) 0 []):=U0 (C▸row0 y 9 1 rfl g.size);have J:=C▸Y6
   replace g:=J5 g J
   rw[<- C];clear C J;refine A8 d (U.out _ g) λhH=>?_;clear d K;refine wpAnyH_ready (rs:=[4, 5]) Y1 E5 (AllReadyH.cons (o:=⟨some 10,.call ⟨.builtin .append,#[.tmp 6,.tmp 9],#[22,22]⟩,22,_,_,none⟩) rfl (λK d=>?_) (AllReadyH.cons (o:=⟨some 11,.buildSlice 22 0 #[],22,_,_,none⟩) rfl (λK d=>?_) AllReadyH.nil))
   ·refine Ea rfl _ _ 22 rfl z.heap.size 9 1 underlying22 Yv Z5 _ 0 [] rfl A.out _ b.sf.length (b.sf.map .string) rfl (Vu HA.out.sf (J5 a.out.bw g)) (Nc _) O0 g.size ?_;intro v4 Y4 O4 g4 e4;rw[o9,j_]at O4;obtain⟨a1,D,rfl⟩:=D9 O4
    replace g:=W_ g g4 g.size (λk e=>Z4 A.out e)
    replace A:=U0 O4
    clear O4 g4 e4;refine A8 d (U.out _ g) λhH=>?_;clear d K;refine rq 5 λK d=>?_;go_simp;obtain⟨X,C⟩:∃X:World,X=Y4.alloc (.cells #[] 9):=⟨_,rfl⟩;have L:Hid (X.ownsRow z.heap.size 9 1 (.slice (some ⟨Y4.heap.size,0,none⟩) 0 0) 0 []):=U0 (C▸row0 Y4 9 1 rfl g.size);have J:=C▸Y6;have N:=U0 (KI A.out : NE (.slice (some ⟨Y4.heap.size,0,none⟩) 0 0) _)
    replace A:=U0 (own_below A.out J)
    replace N:=U0 (Yo N.out)
    replace g:=J5 g J
    rw[<- C];clear C J;refine A8 d (U.out _ g) λhH=>?_;clear d K;refine rq 9 λK d=>?_;refine Ea rfl _ _ 22 rfl z.heap.size 9 1 underlying22 Yv Z5 _ 0 [] rfl L.out _ b.lo.length (b.lo.map .string) rfl (Vu HA.out.lo (J5 a.out.bw g)) (Nc _) O0 g.size ?_;intro v9 Y9 O9 g9 e9;rw[o9,j_]at O9;obtain⟨E,c5,rfl⟩:=D9 O9;have N':=U0 (XI (Yo N.out) A.out e9)
    replace A:=U0 (bK A.out (Yo N.out) g9)
    replace N:=U0 (Yo N'.out)
    clear N'
    replace g:=W_ g g9 g.size (λk e=>Z4 L.out e)
    replace L:=U0 O9
    clear O9 g9 e9;refine A8 d (U.out _ g) λhH=>?_;clear d K;refine sq ?_;refine rq 11 λK d=>?_;go_simp;refine A8 d (U.out _ g) λhH=>?_;clear d K;refine rq 12 λK d=>?_;have H2:=U0 (a.out.call g);refine t_ rfl 37 _ _ rfl (j:=5) rfl rfl H2.out.h2 (show 5+2<=15 by decide) (Y5 rfl) Y1 ?_;intro z' n l;have HF:Hid (aC w M (bsV b q) (bsV b {q with sa:=a1,sc:=D,la:=E,lc:=c5}) z'):=H2.out.st n l;have K1:=U0 (I5 A.out (λp hp=>l.block p (by have:=Z4 A.out hp;have:=HM.out;omega)));have K5:=U0 (I5 L.out (λp hp=>l.block p (by have:=Z4 L.out hp;have:=HM.out;omega)));clear H2 n l;refine A8 d ⟨HF.out.h0.cell 5,HF.out.h0.cell 6⟩ λhH=>?_;clear d K;refine wdn ?_
    go_wp2_with fail
    go_meet
    exact⟨_,_,_,_,rfl,HF,Qi (Ih (P7 K1.out HM.out)) (Ih (P7 K5.out HM.out)),N⟩
   go_simp;obtain⟨X,C⟩:∃X:World,X=Y0.alloc (.cells #[] 9):=⟨_,rfl⟩;have L:Hid (X.ownsRow z.heap.size 9 1 (.slice (some ⟨Y0.heap.size,0,none⟩) 0 0) 0 []):=U0 (C▸row0 Y0 9 1 rfl g.size);have J:=C▸Y6;have N:=U0 (KI A.out : NE (.slice (some ⟨Y0.heap.size,0,none⟩) 0 0) _)
   replace A:=U0 (own_below A.out J)
   replace N:=U0 (Yo N.out)
  rotate_left
  focus
   go_simp;obtain⟨X,C⟩:∃X:World,X=y.alloc (.cells #[] 9):=⟨_,rfl⟩;have L:Hid (X.ownsRow z.heap.size 9 1 (.slice (some ⟨y.heap.size,0,none⟩) 0 0) 0 []):=U0 (C▸row0 y 9 1 rfl g.size);have J:=C▸Y6
   replace g:=J5 g J
   rw[<- C];clear C J;refine A8 d (U.out _ g) λhH=>?_;clear d K;refine rq 0 λK d=>?_;go_simp;obtain⟨Y0,C⟩:∃Y0:World,Y0=X.alloc (.cells #[] 9):=⟨_,rfl⟩;have A:Hid (Y0.ownsRow z.heap.size 9 1 (.slice (some ⟨X.heap.size,0,none⟩) 0 0) 0 []):=U0 (C▸row0 X 9 1 rfl g.size);have J:=C▸Y6;have N:=U0 (KI L.out : NE (.slice (some ⟨X.heap.size,0,none⟩) 0 0) _)
   replace L:=U0 (own_below L.out J)
  all_goals
   replace g:=J5 g J
   rw[<- C];clear C J;refine A8 d (U.out _ g) λhH=>?_;clear d K;refine rq 4 λK d=>?_;refine Ea rfl _ _ 22 rfl z.heap.size 9 1 underlying22 Yv Z5 _ 0 [] rfl A.out _ b.sf.length (b.sf.map .string) rfl (Vu HA.out.sf (J5 a.out.bw g)) (Nc _) O0 g.size ?_;intro v4 Y4 O4 g4 e4;rw[o9,j_]at O4;obtain⟨a1,D,rfl⟩:=D9 O4;have N':=U0 (XI N.out L.out e4)
   replace L:=U0 (bK L.out N.out g4)
   replace N:=U0 (N'.out)
   clear N'
   replace g:=W_ g g4 g.size (λk e=>Z4 A.out e)
   replace A:=U0 O4
   clear O4 g4 e4;refine A8 d (U.out _ g) λhH=>?_;clear d K;refine rq 9 λK d=>?_;refine Ea rfl _ _ 22 rfl z.heap.size 9 1 underlying22 Yv Z5 _ 0 [] rfl L.out _ b.lo.length (b.lo.map .string) rfl (Vu HA.out.lo (J5 a.out.bw g)) (Nc _) O0 g.size ?_;intro v9 Y9 O9 g9 e9;rw[o9,j_]at O9;obtain⟨E,c5,rfl⟩:=D9 O9;have N':=U0 (XI (Yo N.out) A.out e9)
   replace A:=U0 (bK A.out (Yo N.out) g9)
   replace N:=U0 (Yo N'.out)
   clear N'
   replace g:=W_ g g9 g.size (λk e=>Z4 L.out e)
   replace L:=U0 O9
   clear O9 g9 e9;refine A8 d (U.out _ g) λhH=>?_;clear d K;refine sq ?_;refine rq 11 λK d=>?_;go_simp;refine A8 d (U.out _ g) λhH=>?_;clear d K;refine rq 12 λK d=>?_;have H2:=U0 (a.out.call g);refine t_ rfl 37 _ _ rfl (j:=5) rfl rfl H2.out.h2 (show 5+2<=15 by decide) (Y5 rfl) Y1 ?_;intro z' n l;have HF:Hid (aC w M (bsV b q) (bsV b {q with sa:=a1,sc:=D,la:=E,lc:=c5}) z'):=H2.out.st n l;have K1:=U0 (I5 A.out (λp hp=>l.block p (by have:=Z4 A.out hp;have:=HM.out;omega)));have K5:=U0 (I5 L.out (λp hp=>l.block p (by have:=Z4 L.out hp;have:=HM.out;omega)));clear H2 n l;refine A8 d ⟨HF.out.h0.cell 5,HF.out.h0.cell 6⟩ λhH=>?_;clear d K;refine wdn ?_
   go_wp2_with fail
   go_meet
   exact⟨_,_,_,_,rfl,HF,Qi (Ih (P7 K1.out HM.out)) (Ih (P7 K5.out HM.out)),N⟩
 obtain⟨a1,D,E,c5,rfl,a,m,N⟩:=hcut
 go_wp2_with(refine H8 a.out.h0 rfl 40 _ rfl (j:=7) [.slice q.fa b.fs.length q.fc] rfl rfl underlying40 rfl Y1 ?_)
 refine(c67 q.fa b.fs q.fc wc HL.out.fl (T.U5 HA.out.fs a.out.bw)).mono ?_;rintro e w3⟨⟨v3,rfl,o3⟩,hb⟩;obtain⟨Y,c3,rfl⟩:=D9 o3;have hz3:M+1<=wc.heap.size:=a.out.h2.lt
 replace a:=U0 (a.out.call hb)
 replace m:=U0 (Qi (m.out.below hb) (Ih (P7 o3 hz3)))
 clear hb
 go_upto_region 4 with(refine I7 rfl 40 _ _ rfl (j:=7) rfl rfl a.out.h2 E5 (Y5 rfl) Y1 ?_;intro z3 n l)
 replace a:Hid (aC w M (bsV b q) (bsV b {q with sa:=a1,sc:=D,la:=E,lc:=c5,fa:=Y,fc:=c3}) z3):=a.out.st n l
 replace m:=U0 (m.out.on l (Dl _))
 clear n l
 go_wp2_with(refine H8 a.out.h0 rfl 43 _ rfl (j:=8) [.int .i64 b.s.wd,.slice q.ta b.s.ts.length q.tc,.slice q.ra b.s.rs.length q.rc] rfl rfl underlying43 rfl Y1 ?_)
 refine(a4l b.s q.ta q.ra q.tc q.rc z3 HL.out.st.1.1 HL.out.st.2.1 (λi=>(HL.out.st.2.2 i).2.1) (HA.out.st.below a.out.bw)).mono ?_;rintro e w4⟨⟨tv,rv,rfl,so⟩,hb⟩;obtain⟨a4,c4,rfl⟩:=D9 so.1;obtain⟨a6,Z,rfl⟩:=D9 so.2.choose_spec.row;have N2:=U0 (ne_of m.out.now.1.1 (so.1));have N3:=U0 (ne_of m.out.now.1.2 (so.1));have hz4:M+1<=z3.heap.size:=a.out.h2.lt
 replace a:=U0 (a.out.call hb)
 replace m:=U0 (Qi (m.out.below hb) ((Be so hz4).kt))
 clear hb
 go_upto_region 5 with(refine I7 rfl 43 _ _ rfl (j:=8) rfl rfl a.out.h2 E5 (Y5 rfl) Y1 ?_;intro z4 n l)
 replace a:Hid (aC w M (bsV b q) (bsV b {q with sa:=a1,sc:=D,la:=E,lc:=c5,fa:=Y,fc:=c3,ta:=a4,tc:=c4,ra:=a6,rc:=Z}) z4):=a.out.st n l
 replace m:=U0 (m.out.on l (Dl _))
 clear n l;have hhl:=HL.out.hl;obtain⟨W,O⟩:∃W,W=z4.alloc (.cells #[] 3):=⟨_,rfl⟩;have I:=O▸Y6;have RW:Hid (W.ownsRow z4.heap.size 3 1 (.slice (some ⟨z4.heap.size,0,none⟩) 0 0) 0 []):=U0 (O▸row0 z4 3 1 rfl (J8 _));have CW:=U0 (a.out.call I).h0;have H1:=U0 (λv hv=>by obtain⟨x,_,rfl⟩:=zl.1 hv;rfl : ∀v∈b.hd.map (Value.int .i64),v.oneCell'=true);have hz5:M+1<=z4.heap.size:=a.out.h2.lt
 go_upto_region 6 with(first|(rw[<- O];refine N8 CW.out rfl 31 _ rfl rfl rfl Y1 ?_)|(at_builtin;refine Vd rfl _ _ 31 rfl z4.heap.size 3 1 underlying31 dZ Z5 _ 0 [] rfl RW.out _ b.hd.length (b.hd.map (.int .i64)) rfl (nH q.hc HA.out.hd W (J5 a.out.bw I)) H1.out O0 I.size ?_;intro v1 y1 F g1 eX;clear eX;rw[o9,j_]at F;obtain⟨a7,c7_,rfl⟩:=D9 F;have B1:=W_ I g1 I.size (λk e=>Z4 RW.out e);replace a:=U0 (a.out.call B1);replace m:=U0 (Qi (m.out.below B1) (Ih (P7 F hz5)));have F:=U0 F;clear g1)|(refine Cc rfl 31 _ _ rfl (p:=11) rfl rfl Y1 a.out.h2 (show 11<15 by decide) ?_;intro z5 n l))
 replace a:Hid (aC w M (bsV b q) (bsV b {q with sa:=a1,sc:=D,la:=E,lc:=c5,fa:=Y,fc:=c3,ta:=a4,tc:=c4,ra:=a6,rc:=Z,ha:=a7,hc:=c7_}) z5):=a.out.st n.out l
 replace m:=U0 (m.out.on l (Dl _))
 clear n l B1 RW CW H1;clear F;have hrl:=HL.out.rl;obtain⟨W,O⟩:∃W,W=z5.alloc (.cells #[] 9):=⟨_,rfl⟩;have I:=O▸Y6;have RW:Hid (W.ownsRow z5.heap.size 9 1 (.slice (some ⟨z5.heap.size,0,none⟩) 0 0) 0 []):=U0 (O▸row0 z5 9 1 rfl (J8 _));have CW:=U0 (a.out.call I).h0;have H1:=U0 (Nc _ : ∀v∈b.rt.map Value.string,v.oneCell'=true);have hz6:M+1<=z5.heap.size:=a.out.h2.lt
 go_upto_region 7 with(first|(rw[<- O];refine N8 CW.out rfl 22 _ rfl rfl rfl Y1 ?_)|(at_builtin;refine Vd rfl _ _ 22 rfl z5.heap.size 9 1 underlying22 Yv Z5 _ 0 [] rfl RW.out _ b.rt.length (b.rt.map .string) rfl ((λ(u:World) hu=>Vu (u:=u) (c:=q.oc) HA.out.rt hu) W (J5 a.out.bw I)) H1.out O0 I.size ?_;intro v1 y1 F g1 eX;clear eX;rw[o9,j_]at F;obtain⟨a8,c8_,rfl⟩:=D9 F;have B1:=W_ I g1 I.size (λk e=>Z4 RW.out e);have N4:=U0 (ne_of m.out.now.1.1.1.1 F);have N5:=U0 (ne_of m.out.now.1.1.1.2 F);have N6:=U0 (ne_of m.out.now.1.2.1 F);replace a:=U0 (a.out.call B1);replace m:=U0 (Qi (m.out.below B1) (Ih (P7 F hz6)));have F:=U0 F;clear g1)|(refine Cc rfl 22 _ _ rfl (p:=12) rfl rfl Y1 a.out.h2 (show 12<15 by decide) ?_;intro z6 n l))
 replace a:Hid (aC w M (bsV b q) (bsV b {q with sa:=a1,sc:=D,la:=E,lc:=c5,fa:=Y,fc:=c3,ta:=a4,tc:=c4,ra:=a6,rc:=Z,ha:=a7,hc:=c7_,oa:=a8,oc:=c8_}) z6):=a.out.st n.out l
 replace m:=U0 (m.out.on l (Dl _))
 clear n l B1 RW CW H1;clear F;obtain⟨W,O⟩:∃W,W=z6.alloc (.cells #[] 111):=⟨_,rfl⟩;have I:=O▸Y6;have RS:Hid (W.ownsRow z6.heap.size 111 6 (.slice (some ⟨z6.heap.size,0,none⟩) 0 0) 0 []):=U0 (O▸row0 z6 111 6 rfl (J8 _));have hz7:M+1<=z6.heap.size:=a.out.h2.lt
 replace a:=U0 (a.out.call I)
 replace m:=U0 (m.out.below I)
 go_upto_region 8 with(rw[<- O];refine Cc rfl 44 _ _ rfl (p:=13) rfl rfl Y1 a.out.h2 (show 13<15 by decide) ?_;intro z7 n l)
 clear O I;have hnl:=HL.out.nl;have RZ:Hid (z7.ownsRow (M+1) 111 6 (.slice (some ⟨z6.heap.size,0,none⟩) 0 0) 0 []):=U0 (P7 (I5 RS.out (λp hp=>l.block p (by have:=Z4 RS.out hp;omega))) hz7)
 replace a:Hid (aC w M (bsV b q) (bsV {b with rn:=[]} {q with sa:=a1,sc:=D,la:=E,lc:=c5,fa:=Y,fc:=c3,ta:=a4,tc:=c4,ra:=a6,rc:=Z,ha:=a7,hc:=c7_,oa:=a8,oc:=c8_,na:=some ⟨z6.heap.size,0,none⟩,nc:=0}) z7):=a.out.st n.out l
 replace m:=U0 (m.out.on l (Dl _))
 clear n l RS hz7;obtain⟨P,KP,HP⟩:∃P:World->Prop,Hid (Kt (M+1) z7 P)/\Hid (P=_):=⟨_,m,rfl⟩;clear m
 go_upto_region 9 with fail
 go_loopw[4] (λi wr=>∃(r s:List Rn)(vs:List Value)(a9:Option Addr)(c9_:Nat),Hid (b.rn=r++s)/\i=.int .i64 r.length/\Hid (aC w M (bsV b q) (bsV {b with rn:=r} {q with sa:=a1,sc:=D,la:=E,lc:=c5,fa:=Y,fc:=c3,ta:=a4,tc:=c4,ra:=a6,rc:=Z,ha:=a7,hc:=c7_,oa:=a8,oc:=c8_,na:=a9,nc:=c9_}) wr)/\Hid (Kt (M+1) wr P)/\Hid (YB Ph A_ Rn.ls ny 111 6 138 4 (M+1) r [] (.slice a9 r.length c9_) r.length vs wr)) (λi _=>b.rn.length-(RowKit.intOf i).toNat);exact⟨[],b.rn,[],some ⟨z6.heap.size,0,none⟩,0,rfl,rfl,a,KP,rfl,RZ.out,(λi hi=>absurd hi (y9 _)),(λ_ _=>rfl),(λi j hi=>absurd hi (y9 _))⟩;obtain⟨r,s,vs,a9,c9_,hrs,rfl,a,KP,RS⟩:=hrel
 cases s with
 | nil=>
  have er:=hrs.out;rw[Ot]at er;obtain rfl:=er.symm
  go_upto_region 12 with(refine N8 a.out.h0 rfl _ _ rfl rfl rfl Y1 ?_)
  have m:=KP;have hjl:=HL.out.jl;clear KP;obtain⟨W,O⟩:∃W,W=wr.alloc (.cells #[] 127):=⟨_,rfl⟩;have I:=O▸Y6;have RW:Hid (W.ownsRow wr.heap.size 127 3 (.slice (some ⟨wr.heap.size,0,none⟩) 0 0) 0 []):=U0 (O▸row0 wr 127 3 rfl (J8 _));have CW:=U0 (a.out.call I).h0;have H1:=U0 (Ou (is:=b.jb) (f:=yC) (λx v hv=>by simp[yC]at hv;rcases hv with rfl|rfl|rfl<;>rfl));have a7W:M+1<=wr.heap.size:=a.out.h2.lt
  go_upto_region 13 with(first|(rw[<- O];refine N8 CW.out rfl 45 _ rfl rfl rfl Y1 ?_)|(at_builtin;refine Vd rfl _ _ 45 rfl wr.heap.size 127 3 underlying45 (Zc Y1) Z5 _ 0 [] rfl RW.out _ b.jb.length (b.jb.flatMap yC) rfl (jH q.jc HA.out.jb W (J5 a.out.bw I)) H1.out O0 I.size ?_;intro v1 y1 F g1 eX;clear eX;rw[o9,j_]at F;obtain⟨R,Q,rfl⟩:=D9 F;have B1:=W_ I g1 I.size (λk e=>Z4 RW.out e);replace RS:=U0 (RS.out.keep (λq t hT _ _=>B1.block q (Je hT)));replace a:=U0 (a.out.call B1);replace m:=U0 (Qi (m.out.below B1) (Ih (P7 F a7W)));have F:=U0 F;clear g1)|(refine Cc rfl 45 _ _ rfl (p:=14) rfl rfl Y1 a.out.h2 (show 14<15 by decide) ?_;intro z8 n l))
  replace a:Hid (aC w M (bsV b q) (bsV b {q with sa:=a1,sc:=D,la:=E,lc:=c5,fa:=Y,fc:=c3,ta:=a4,tc:=c4,ra:=a6,rc:=Z,ha:=a7,hc:=c7_,oa:=a8,oc:=c8_,na:=a9,nc:=c9_,ja:=R,jc:=Q}) z8):=a.out.st n.out l
  replace m:=U0 (m.out.on l (Dl _))
  replace RS:=U0 (RS.out.keep (λq t _ _ hq=>l.block q (by omega)))
  clear n l B1 RW CW H1;have HR:Hid (nG (M+1) z8 b {q with sa:=a1,sc:=D,la:=E,lc:=c5,fa:=Y,fc:=c3,ta:=a4,tc:=c4,ra:=a6,rc:=Z,ha:=a7,hc:=c7_,oa:=a8,oc:=c8_,na:=a9,nc:=c9_,ja:=R,jc:=Q}):=by
   have kn:=m.out.now.1;have k6:=m.out.now.2;rw[HP.out]at kn;obtain⟨⟨⟨⟨⟨k1,k2⟩,k3⟩,k4⟩,k5⟩,k7⟩:=kn;exact { sf:=k1,lo:=k2,fs:=PG k3,st:=k4,hd:=k5,rt:=k7,rn:=⟨vs,RS.out.len,RS.out.row,RS.out.gl,λ_ _=>rfl,RS.out.apart⟩,jb:=k6,n1:=N.out,n2:=N2.out,n3:=N3.out,n4:=N4.out,n5:=N5.out,n6:=N6.out }
  clear m RS HP;have hM:=a.out.hM
  go_wp2_with(first|(refine H8 a.out.h2 rfl 47 _ rfl (j:=0) (bsV b {q with sa:=a1,sc:=D,la:=E,lc:=c5,fa:=Y,fc:=c3,ta:=a4,tc:=c4,ra:=a6,rc:=Z,ha:=a7,hc:=c7_,oa:=a8,oc:=c8_,na:=a9,nc:=c9_,ja:=R,jc:=Q}) rfl rfl underlying47 rfl Y1 ?_)|(refine I7 rfl 47 _ _ rfl (j:=0) rfl rfl a.out.h1 X7 (Y5 rfl) Y1 ?_;intro zz cq oq))
  exact Q7 (J7 (P:=prog) (ty:=47) rfl _ zz (w.heap.size+1) (bsV b {q with sa:=a1,sc:=D,la:=E,lc:=c5,fa:=Y,fc:=c3,ta:=a4,tc:=c4,ra:=a6,rc:=Z,ha:=a7,hc:=c7_,oa:=a8,oc:=c8_,na:=a9,nc:=c9_,ja:=R,jc:=Q}) _ rfl cq.blk underlying47 rfl Y1) rfl ⟨⟨{q with sa:=a1,sc:=D,la:=E,lc:=c5,fa:=Y,fc:=c3,ta:=a4,tc:=c4,ra:=a6,rc:=Z,ha:=a7,hc:=c7_,oa:=a8,oc:=c8_,na:=a9,nc:=c9_,ja:=R,jc:=Q},rfl,HR.out.mv (.on oq (.inl (by omega))) (by omega)⟩,a.out.bw.trans (oq.below O0)⟩
 | cons x s=>
  have hlr:r.length<b.rn.length:=by rw[hrs.out];simp
  go_upto_region 11 with(refine N8 a.out.h0 rfl _ _ rfl rfl rfl Y1 ?_)
  have hgx:b.rn.getD r.length A_=x:=by rw[hrs.out];simp[List.getD]
  rcases HA.out.rn with h0|⟨bb,off,hqa,hbb,h3⟩
  ·rw[h0]at hlr;exact absurd hlr (y9 _)
  obtain⟨ai,ci,k1,k2⟩:=h3 r.length hlr;rw[hgx]at k1 k2;have hxl:=(HL.out.ns r.length).2.2.1.1;rw[hgx]at hxl;have HQA:=U0 hqa;have K2:=U0 k2;have U:Hid (∀u,aC w M (bsV b q) (bsV {b with rn:=r} {q with sa:=a1,sc:=D,la:=E,lc:=c5,fa:=Y,fc:=c3,ta:=a4,tc:=c4,ra:=a6,rc:=Z,ha:=a7,hc:=c7_,oa:=a8,oc:=c8_,na:=a9,nc:=c9_}) u->u.cell? ⟨M,13,none⟩=some (.slice a9 r.length c9_)/\u.cell? ⟨w.heap.size,13,none⟩=some (.slice (some ⟨bb,off,none⟩) b.rn.length q.nc)/\Hid (∀i v,(Ph (x,.slice ai x.ls.length ci))[i]?=some v->u.cell? ⟨bb,off+r.length*6+i,none⟩=some v)):=λu hu=>⟨hu.h2.cell 13,by have h:=hu.h0.cell 13;rw[h,<- HQA.out];rfl,λi v e=>(hu.bw.cell (by exact hbb)).trans (k1 i v e)⟩;have hRN:=a.out.hM;have hRL:=a.out.h2.lt;clear k1 k2 h3 hqa hgx;have hd:Bw wr wr.drew:=(G5 _ _).drew;refine Qd 11 (S:=λu=>u.cell? ⟨M,13,none⟩=some (.slice a9 r.length c9_)/\u.cell? ⟨w.heap.size,13,none⟩=some (.slice (some ⟨bb,off,none⟩) b.rn.length q.nc)/\Hid (∀i v,(Ph (x,.slice ai x.ls.length ci))[i]?=some v->u.cell? ⟨bb,off+r.length*6+i,none⟩=some v)) Y1 (U.out _ (a.out.call hd)) λhH=>?_
  iterate 6 refine AL ?_
  try simp only[qq]
  refine lq 6 hH ?_ (hv:=λu hu=>d_ 111 _ rfl (B:=bb) (j:=off+r.length*6) (cs:=Ph (x,.slice ai x.ls.length ci)) rfl hu.2.2.out underlying111 rfl Y1)
  try simp only[qq]
  refine uy 7 λK d=>?_;go_simp;refine(c69 x ai ci wr.drew hxl (U7 K2.out (J5 a.out.bw hd))).mono ?_;rintro e y1⟨⟨a',c',rfl,ho⟩,hb⟩;have OX:=U0 ho;have hb1:=U0 hb;have b1:=hd.trans (hb.mono X7);clear ho hb;go_simp;refine A8 d (U.out _ (a.out.call b1)) λhH=>?_;clear d K;refine uy 8 λK d=>?_;go_simp;have HS:=U0 (X4 y1 (Ph (x,.slice a' x.ls.length c')) 111);have J:=U0 (Y6 (w:=y1) (o:=.cells (Ph (x,.slice a' x.ls.length c')).toArray 111));have b2:=J5 b1 J.out;change K _ (y1.alloc (.cells (Ph (x,.slice a' x.ls.length c')).toArray 111));refine A8 d (U.out _ (a.out.call b2)) λhH=>?_;clear d K;generalize y1.alloc (.cells (Ph (x,.slice a' x.ls.length c')).toArray 111)=y2 at*;have H4:=U0 (a.out.call b2);have K4:=U0 (KP.out.below b2);have R4:=U0 (own_below RS.out.row b2);have a8q:r.length+1<=1048576:=by have:=HL.out.nl;omega
  have hM2:=I8 hRL b2.size;clear a KP;refine uy 9 λK d=>?_;refine Ea rfl _ _ 44 rfl (M+1) 111 6 underlying44 (Zc Y1) Z5 _ r.length (cE Ph A_ r vs) rfl R4.out _ 1 (Ph (x,.slice a' x.ls.length c')) rfl (.inr ⟨⟨y1.heap.size,0,none⟩,1,rfl,rfl,Ti HS.out⟩) (Y5 rfl) O0 hM2 ?_;intro v' w6 O6 g6 hv6;obtain⟨R,Q,rfl⟩:=V9 O6;have RP:Hid (YB Ph A_ Rn.ls ny 111 6 138 4 (M+1) (r++[x]) [] (.slice R (r++[x]).length Q) (r++[x]).length (vs++[.slice a' x.ls.length c']) w6):=U0 (by
   rw[show Value.slice R (r++[x]).length Q=.slice R (r.length+1) Q from by simp];exact RS.out.push Z5 (Nat.succ_le_of_lt hRL) b1 (by have h:=OX.out;simpa using h) J.out g6 O6)
  have H6:Hid (aC w M (bsV b q) (bsV {b with rn:=r} {q with sa:=a1,sc:=D,la:=E,lc:=c5,fa:=Y,fc:=c3,ta:=a4,tc:=c4,ra:=a6,rc:=Z,ha:=a7,hc:=c7_,oa:=a8,oc:=c8_,na:=a9,nc:=c9_}) w6):=⟨(g6.block _ H4.out.h0.lt (λe=>by have:=Z4 R4.out e.symm;omega)).trans H4.out.h0,(g6.block _ H4.out.h1.lt (λe=>by have:=Z4 R4.out e.symm;omega)).trans H4.out.h1,(g6.block _ H4.out.h2.lt (λe=>by have:=Z4 R4.out e.symm;omega)).trans H4.out.h2,W_ H4.out.bw g6 H4.out.bw.size (λk hk=>by have:=Z4 R4.out hk;omega),H4.out.hM⟩;have K6:=U0 (K4.out.next g6.size (λp t hT ht hp=>g6.block p (Je hT) (λe=>ht (Z8 hT (N7 R4.out e.symm)))));clear O6 g6 hv6 H4 K4 R4 RS OX HS J hb1 b1 b2;refine A8 d (U.out _ H6.out) λhH=>?_;clear d K;refine AL ?_;refine iZ λK d=>?_;refine Gn rfl (Il 44 _ _ rfl (B:=M) (j:=13) rfl rfl ⟨_,H6.out.h2.cell 13⟩ (H6.out.h2.opn 13) Y1) ?_;have hs:=O_ w6 M 13 (.slice R (r.length+1) Q);have H7:Hid (aC w M (bsV b q) (bsV {b with rn:=r++[x]} {q with sa:=a1,sc:=D,la:=E,lc:=c5,fa:=Y,fc:=c3,ta:=a4,tc:=c4,ra:=a6,rc:=Z,ha:=a7,hc:=c7_,oa:=a8,oc:=c8_,na:=R,nc:=Q}) (w6.setCell ⟨M,13,none⟩ (.slice R (r.length+1) Q))):=U0 (H6.out.st (by
   have h:=H6.out.h2.set 13 (.slice R (r.length+1) Q);unfold bsV;rw[show(r++[x]).length=r.length+1 by simp];exact h) hs)
  replace K6:=U0 (K6.out.on hs (Dl _))
  replace RP:=U0 (RP.out.keep (λp t _ _ hp=>hs.block p (by omega)))
  change K _ (w6.setCell ⟨M,13,none⟩ (.slice R (r.length+1) Q));clear H6 hs;generalize w6.setCell ⟨M,13,none⟩ (.slice R (r.length+1) Q)=w7 at*;refine d.out _ _ ?_;clear d K
  try simp only[qq]
  refine ig Y1 ?_ _;go_wp2;go_roundw;exact⟨r++[x],s,_,R,Q,U0 (by rw[hrs.out];simp),by simp,H7,K6,RP⟩;exact Z9
