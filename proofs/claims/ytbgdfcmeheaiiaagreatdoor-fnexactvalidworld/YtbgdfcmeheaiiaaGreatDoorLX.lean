import Derived.Test.YtbgdfcmeheaiiaaGreatDooreES
import Derived.Test.YtbgdfcmeheaiiaaGreatDooreEU
import Derived.Test.YtbgdfcmeheaiiaaGreatDoortWF
import Derived.Test.YtbgdfcmeheaiiaaGreatDoorpC
import Derived.ProofKit
import Derived.OpenShut
import Derived.ShutString
import Derived.ChangeOld
import Derived.SliceStrings
import Derived.Deep.Strs
import Derived.Deep.Slices
import Derived.OpenVars
import Derived.HandedShaped
import Derived.Shelf.Vars
import Derived.Deep.DeepHandedRow
import Derived.Deep.DeepWitnessRowRef
import Derived.SevenTiedAt
import Derived.ChangeArms
import Derived.LaidMore
import Derived.LaidOnce
import Derived.LaidHandle
set_option linter.unusedVariables false
set_option linter.unusedSimpArgs false
set_option maxHeartbeats 8000000
set_option maxRecDepth 100000
namespace Go.Proofs.YtbgdfcmeheaiiaaGreatDoor
open Proofs.Tryz Go.RowKit
theorem c89(s:BY)(w:World)(hs:s.size<=1048576):
 Calls prog 89 #[.string s] w λe w'=>Is4 s.data.toList w' e/\Bw w w':=by
 have hsl:s.data.toList.length=s.size:=O4;by_cases h0:1<=s.size
 ·by_cases a:s.size<=16000
  ·by_cases c:O1 ((L8 10 s.data.toList).getD 0 [])=Dk
   ·exact KW s w h0 a c
   by_cases h1:O1 ((L8 10 s.data.toList).getD 0 [])=Xd
   ·exact QM s w h0 a h1
   by_cases h2:O1 ((L8 10 s.data.toList).getD 0 [])=Ph
   ·exact TQ s w h0 a h2
   by_cases d:O1 ((L8 10 s.data.toList).getD 0 [])=dh
   ·exact aU s w h0 a d
   by_cases b:O1 ((L8 10 s.data.toList).getD 0 [])=Fg
   ·exact ZM s w h0 a b
   exact VP s w h0 a ⟨c,h1,h2,d,b⟩
  have k:Hid (RES s.data.toList Ji false):=xK (.inr O0);have j:Bw w (w.alloc (.cells zE.toArray 168)):=P6;have hA:=I9 w zE 168;have i:=Rf w zE.toArray 168;have g:=g_ hA zE rfl;have h2:decide (16000<(s.size:Int))=true:=X7
  go_in
  go_wp2_with(refine J7 rfl 168 (.tmp 2) (.tmp 18) rfl w.heap.size 0 rfl zE rfl g i (by simp[zE,Value.oneCell']) Y0 rfl ?_)
  exact Xj k.out rfl rfl rfl hA j
 have f:s=⟨#[]⟩:=by
  apply mg;have:s.data.size=0:=by
   have h:s.size=0:=O0;exact h
  exact Array.eq_empty_of_size_eq_zero this
 subst f;exact MN w
theorem qE{l:List UInt8}{x y:u_}{a b:Bool}(hx:RES l x a)(c:RE l y b)(e:a=false->x=Ji)(d:b=false->y=Ji):a=b/\x=y:=by
 cases a<;>cases b
 ·exact⟨rfl,by rw[e rfl,d rfl]⟩
 ·obtain⟨h1,h2⟩:=c.1 rfl;exact absurd h2 (hx.2 rfl y h1)
 ·obtain⟨h1,h2,_⟩:=hx.1 rfl;exact absurd h2 (c.2 rfl x h1)
 obtain⟨_,_,f⟩:=hx.1 rfl;obtain⟨h1,h2⟩:=c.1 rfl;exact⟨rfl,f y h1 h2⟩
theorem a1t(a b:BY)(w:World):
 Calls prog 197 #[.agg #[.string a,.string b],.agg #[.string a,.string b]] w λe w'=>e=.returned (.bool true)/\Bw w w':=by
 go_in
 go_wp2;go_ret;exact⟨rfl,P6.alloc O4 _⟩
theorem c24(b:Bs)(q p:Ba)(w:World)(hl:Bo b 1048576)(F:Dn w b q)(H:Dn w b p):
 Calls prog 24 #[.agg (bsV b q).toArray,.agg (bsV b p).toArray] w λe w'=>e=.returned (.bool true)/\Bw w w':=by
 have X:=U0 F;have Y:=U0 H;have c:=U0 hl
 go_in
 go_upto_region 1 with fail
 have f:=U0 (G8 (U3 w (bsV b q) 53) (.cells (bsV b p).toArray 53));have d:Hid (Cl ((w.alloc (.cells (bsV b q).toArray 53)).alloc (.cells (bsV b p).toArray 53)) (w.heap.size+1) 53 (bsV b p)):=by show Cl _ _ _ _;have h:=U3 (w.alloc (.cells (bsV b q).toArray 53)) (bsV b p) 53;simpa using h
 have k:Hid (Bw w ((w.alloc (.cells (bsV b q).toArray 53)).alloc (.cells (bsV b p).toArray 53))):=P6.alloc O4 _;generalize (w.alloc (.cells (bsV b q).toArray 53)).alloc (.cells (bsV b p).toArray 53)=V0 at*;have a0:=f.out.cell 0;have d0:=d.out.cell 0;have a1:=f.out.cell 1;have Z:=d.out.cell 1;have a2:=f.out.cell 2;have Q:=d.out.cell 2;have a3:=f.out.cell 3;have P:=d.out.cell 3;have a4:=f.out.cell 4;have O:=d.out.cell 4;have a5:=f.out.cell 5;have N:=d.out.cell 5;have a6:=f.out.cell 6;have L:=d.out.cell 6;simp only[gz]at a0 d0 a1 Z a2 Q a3 P a4 O a5 N a6 L
 go_wp2_with fail
 refine(c72 q.sa q.la p.sa p.la q.sc q.lc p.sc p.lc b.sf b.lo V0 c.out.sl c.out.ll (X5 X.out.sf k) (X5 X.out.lo k) (X5 Y.out.sf k) (X5 Y.out.lo k)).mono ?_;rintro e V1⟨rfl,a⟩;have E:=U0 (P5 k a);have y:=U0 (f.out.below a f.out.lt);have r:=U0 (d.out.below a d.out.lt);have a7:=y.out.cell 7;have K:=r.out.cell 7;simp only[gz]at a7 K
 go_wp2_with fail
 refine(T.c73 q.fa p.fa q.fc p.fc b.fs V1 c.out.fl (T.X4 X.out.fs E) (T.X4 Y.out.fs E)).mono ?_;rintro e V2⟨rfl,a⟩;have D:=U0 (P5 E a);have j:=U0 (y.out.below a y.out.lt);have g:=U0 (r.out.below a r.out.lt);have a8:=j.out.cell 8;have J:=g.out.cell 8;have a9:=j.out.cell 9;have I:=g.out.cell 9;have a10:=j.out.cell 10;have W:=g.out.cell 10;simp only[gz]at a8 J a9 I a10 W
 go_wp2_with fail
 refine(a2Y q.ta q.ra p.ta p.ra q.tc q.rc p.tc p.rc b.s V2 ⟨c.out.st.1.1,c.out.st.2.1,λi=>(c.out.st.2.2 i).2.1⟩ (X.out.st.below D) (Y.out.st.below D)).mono ?_;rintro e V3⟨rfl,a⟩;have C:=U0 (P5 D a);have x:=U0 (j.out.below a j.out.lt);have o:=U0 (g.out.below a g.out.lt);have a11:=x.out.cell 11;have V:=o.out.cell 11;simp only[gz]at a11 V
 go_wp2_with fail
 refine(c75 q.ha p.ha q.hc p.hc b.hd V3 c.out.hl (zh X.out.hd C) (zh Y.out.hd C)).mono ?_;rintro e V4⟨rfl,a⟩;have B:=U0 (P5 C a);have v:=U0 (x.out.below a x.out.lt);have n:=U0 (o.out.below a o.out.lt);have a12:=v.out.cell 12;have U:=n.out.cell 12;simp only[gz]at a12 U
 go_wp2_with fail
 refine(c76 q.oa p.oa q.oc p.oc b.rt V4 c.out.rl (X5 X.out.rt B) (X5 Y.out.rt B)).mono ?_;rintro e V5⟨rfl,a⟩;have A:=U0 (P5 B a);have u:=U0 (v.out.below a v.out.lt);have m:=U0 (n.out.below a n.out.lt);have a13:=u.out.cell 13;have S:=m.out.cell 13;simp only[gz]at a13 S
 go_wp2_with fail
 refine(c77 q.na p.na q.nc p.nc b.rn V5 c.out.nl (λi=>(c.out.ns i).2.2.1.1) (Ve X.out.rn A) (Ve Y.out.rn A)).mono ?_;rintro e V6⟨rfl,a⟩;have z:=U0 (P5 A a);have t:=U0 (u.out.below a u.out.lt);have l:=U0 (m.out.below a m.out.lt);have a14:=t.out.cell 14;have R:=l.out.cell 14;simp only[gz]at a14 R
 go_wp2_with fail
 refine(c78 q.ja p.ja q.jc p.jc b.jb V6 c.out.jl (Dl X.out.jb z) (Dl Y.out.jb z)).mono ?_;rintro e V7⟨rfl,a⟩;have B7:=U0 (P5 z a);have C7:=U0 (t.out.below a t.out.lt);have D7:=U0 (l.out.below a l.out.lt);go_wp2;go_ret;exact⟨rfl,B7⟩
structure T6 where
 over:Bool
 cd:Int
 tx:BY
 has:Bool
 nm:BY
 st:Int
def T6.le(x:T6)(B:Nat):Prop:=x.tx.size<=B/\x.nm.size<=B
structure mr where
 kd:Int
 tw:Int
 fr:Int
 ep:Int
 ed:Int
 km:M3
 ls:List L4
 ct:Int
 tn:T6
def mr.le(x:mr)(B:Nat):Prop:=x.km.le B/\(x.ls.length<=B/\∀i,(x.ls.getD i l_).le B)/\x.tn.le B
def t6z:T6:=⟨false,0,⟨#[]⟩,false,⟨#[]⟩,0⟩
def a2R:mr:=⟨0,0,0,0,0,C_,[],0,t6z⟩
structure Yz where
 no:Int
 up:Bool
 has:Bool
 of:mr
def Vf:Yz:=⟨0,false,false,a2R⟩
def Yz.le(x:Yz)(B:Nat):Prop:=x.of.le B
structure Pc where
 tw:Int
 se:BY
 by_:BY
def Vu:Pc:=⟨0,⟨#[]⟩,⟨#[]⟩⟩
def Pc.le(x:Pc)(B:Nat):Prop:=x.se.size<=B/\x.by_.size<=B
def oD(x:Pc):List Value:=[.int .i64 x.tw,.string x.se,.string x.by_]
structure Dd where
 nm:BY
 md:Bool
 km:M3
 ls:List L4
 cd:Int
 tx:BY
def IB:Dd:=⟨⟨#[]⟩,false,C_,[],0,⟨#[]⟩⟩
def Dd.le(x:Dd)(B:Nat):Prop:=x.nm.size<=B/\x.km.le B/\(x.ls.length<=B/\∀i,(x.ls.getD i l_).le B)/\x.tx.size<=B
structure An where
 nm:BY
 fs:List T.F2
 cd:Int
 tx:BY
 ds:List Dd
def AB:An:=⟨⟨#[]⟩,[],0,⟨#[]⟩,[]⟩
def An.le(x:An)(B:Nat):Prop:=x.nm.size<=B/\(x.fs.length<=B/\∀i,(x.fs.getD i T.P8).le B)/\x.tx.size<=B/\x.ds.length<=B/\∀i,(x.ds.getD i IB).le B
@[go_sem] abbrev msE(x:mr)(v:Value):List Value:=[.int .i64 x.kd,.int .i64 x.tw,.int .i64 x.fr,.int .i64 x.ep,.int .i64 x.ed,.string x.km.nm,.string x.km.tl,.string x.km.ar,v,.int .i64 x.ct,.bool x.tn.over,.int .i64 x.tn.cd,.string x.tn.tx,.bool x.tn.has,.string x.tn.nm,.int .i64 x.tn.st]
@[go_sem] abbrev wkV(x:Yz)(v:Value):List Value:=[.int .i64 x.no,.bool x.up,.bool x.has,.int .i64 x.of.kd,.int .i64 x.of.tw,.int .i64 x.of.fr,.int .i64 x.of.ep,.int .i64 x.of.ed,.string x.of.km.nm,.string x.of.km.tl,.string x.of.km.ar,v,.int .i64 x.of.ct,.bool x.of.tn.over,.int .i64 x.of.tn.cd,.string x.of.tn.tx,.bool x.of.tn.has,.string x.of.tn.nm,.int .i64 x.of.tn.st]
@[go_sem] abbrev ddV(x:Dd)(v:Value):List Value:=[.string x.nm,.bool x.md,.string x.km.nm,.string x.km.tl,.string x.km.ar,v,.int .i64 x.cd,.string x.tx]
@[go_sem] abbrev anV(x:An)(v u:Value):List Value:=[.string x.nm,v,.int .i64 x.cd,.string x.tx,u]
def eF(p:Yz×Value):List Value:=wkV p.1 p.2
def CO(p:Dd×Value):List Value:=ddV p.1 p.2
def qN(p:An×(Value×Value)):List Value:=anV p.1 p.2.1 p.2.2
def dK{β:Type}(L:World->OA->List β->Prop)(u:World)(ls:List β)(v:Value):Prop:=∃a c,v=.slice a ls.length c/\L u a ls
theorem dK.one{β:Type}{L:World->OA->List β->Prop}{u:World}{ls:List β}{v:Value}(h:dK L u ls v):v.oneCell'=true:=by
 obtain⟨a,c,rfl,_⟩:=h;rfl
def RP{α P:Type}(f:α×P->List Value)(R:World->α×P->Prop)(d:α)(m:Nat)(w:World)(a:OA)(is:List α):Prop:=Kv w a is d m λw b o x=>∃p,Bc w b o (f (x,p))/\R w (x,p)
def Sta{α:Type}(R:World->α->Prop):Prop:=∀w w' q,R w q->Bw w w'->R w' q
section
variable{α P β:Type}{f:α×P->List Value}{R:World->α×P->Prop}{d:α}{m b g n k:Nat}{w w' u:World}{a:OA}{is:List α}{t:TypeId}{z r:List Value}
theorem Ja(hR:Sta R)(h:RP f R d m w a is)(c:Bw w w'):RP f R d m w' a is:=Ut (λb o x ⟨p,h1,h2⟩ hl=>⟨p,h1.below hl c,hR _ _ _ h2 c⟩) h c
theorem Zp{L:World->OA->List β->Prop}(d:∀w w' a ls,L w a ls->Bw w w'->L w' a ls){ls:List β}{v:Value}(h:dK L w ls v)(b:Bw w w'):dK L w' ls v:=by
 obtain⟨a,c,e,h⟩:=h;exact⟨a,c,e,d _ _ _ _ h b⟩
theorem FX{ps:List (α×P)}(hf:∀x,(f x).length=m)(h:Cl w b t (ps.flatMap f++r)){i:Nat}(a:i<ps.length):∃v,((ps.map Prod.fst).getD i d,v)∈ps/\Bc w b (0+i*m) (f ((ps.map Prod.fst).getD i d,v)):=by
 have e:(ps.map Prod.fst).getD i d=(ps[i]).1:=by simp[List.getD,a]
 refine⟨(ps[i]).2,by rw[e];exact ji a,?_⟩;rw[e];refine AQ h (λq v e=>?_);have hq:q<m:=by have:=(Rl.1 e).1;rwa[hf]at this
 have hl:=uh (m:=m) hf ps;have:i*m+m<=ps.length*m:=by rw[<- Xn];exact wE _ a
 rw[l7,R_ (by omega)];exact Aq (d:=ps[i]) hf ps i a q v (by rw[show ps.getD i ps[i]=ps[i] from by simp[List.getD,a]];exact e)
theorem SE{ps:List (α×P)}(hf:∀x,(f x).length=m)(a:z.length=m)(e:ps.map Prod.fst=is.take k)(b:k<is.length)(v:P):
 (ps++[(is.getD k d,v)]).map Prod.fst=is.take (k+1)/\k*m+(f (is.getD k d,v)).length<=(ps.flatMap f++zs z (is.length-k)).length/\Ap (ps.flatMap f++zs z (is.length-k)) (k*m) (f (is.getD k d,v))=(ps++[(is.getD k d,v)]).flatMap f++zs z (is.length-(k+1)):=by
 have hl:ps.length=k:=by have:=U6 List.length e;simp at this;omega
 have c:(ps.flatMap f).length=k*z.length:=by rw[uh hf,hl,a]
 have h1:=GI (vs:=f (is.getD k d,v)) c ((hf _).trans a.symm) b;have h2:=EI (vs:=f (is.getD k d,v)) c ((hf _).trans a.symm) b;rw[a]at h1 h2;refine⟨?_,h1,h2.trans (by rw[Vq,List.flatMap_singleton])⟩;rw[Gl,e,Rq,D9 b];simp[List.getD,D9 b]
theorem DI{ps:List (α×P)}(hf:∀x,(f x).length=m)(a:ps.map Prod.fst=is.take is.length)(h:Cl w g t (ps.flatMap f++zs z (is.length-is.length)))(c:∀q∈ps,Kp (g+1) w (λu=>R u q)):Kp g w (λu=>RP f R d m u (some ⟨g,0,none⟩) is):=λu h1 h2=>by
 rw[qp]at a;have hl:ps.length=is.length:=by have:=U6 List.length a;simpa using this
 have b:Cl u g t (ps.flatMap f++zs z (is.length-is.length)):=(h2 g Y8 h.lt).trans h;refine .inr ⟨g,0,rfl,b.lt,λi hi=>?_⟩;obtain⟨v,hv,hB⟩:=FX (d:=d) hf b (i:=i) O0;rw[a]at hv hB;exact⟨v,hB,c _ hv u h1 (λq hq=>h2 q O0)⟩
end
@[reducible] def wkR(u:World)(q:Yz×Value):Prop:=dK X6 u q.1.of.ls q.2
@[reducible] def ddR(u:World)(q:Dd×Value):Prop:=dK X6 u q.1.ls q.2
@[reducible] def a5g:=RP eF wkR Vf 19
@[reducible] def a5f:=RP CO ddR IB 8
@[reducible] def anR(u:World)(q:An×(Value×Value)):Prop:=dK T.U5 u q.1.fs q.2.1/\dK a5f u q.1.ds q.2.2
@[reducible] def AnsAt:=RP qN anR AB 5
def Qq(w:World)(a:OA)(is:List Pc):Prop:=Kv w a is Vu 3 λw b o x=>Bc w b o (oD x)
theorem Zn:Sta wkR:=λ_ _ _ h a=>Zp (L:=X6) (λ_ _ _ _ h a=>Z4 h a) h a
theorem Ot:Sta ddR:=λ_ _ _ h a=>Zp (L:=X6) (λ_ _ _ _ h a=>Z4 h a) h a
theorem wu:Sta anR:=λ_ _ _ h a=>⟨Zp (L:=T.U5) (λ_ _ _ _ h a=>T.X4 h a) h.1 a,Zp (L:=a5f) (λ_ _ _ _ h a=>Ja Ot h a) h.2 a⟩
theorem zl{w w':World}{a:OA}{is:List Pc}(h:Qq w a is)(c:Bw w w'):Qq w' a is:=Ut (λb o x h hl=>h.below hl c) h c
end Go.Proofs.YtbgdfcmeheaiiaaGreatDoor
namespace Go.Proofs.YtbgdfcmeheaiiaaGreatDoor
open Proofs.Tryz Go.RowKit
structure MS where
 ep:Int
 fs:List T.F2
 s:St
noncomputable def SN(fs:List T.F2)(x:T.F2):Option (List T.F2):=@dite _ (∃gs,T.Ho fs x 0 gs) (Classical.propDecidable _) (λh=>some h.choose) (λ_=>none)
noncomputable def drF(fs:List T.F2)(n:BY):Option (List T.F2):=@dite _ (∃gs,T.Yh fs n 0 gs) (Classical.propDecidable _) (λh=>some h.choose) (λ_=>none)
section
variable{fs gs:List T.F2}{x:T.F2}{n:BY}{c:Int}
theorem LQ(h:T.Ho fs x 0 gs):SN fs x=some gs:=by
 have a:∃gs,T.Ho fs x 0 gs:=⟨gs,h⟩;unfold SN;rw[dif_pos a];exact U6 some (T.yG h a.choose_spec).2
theorem fP(h:T.Ho fs x c gs)(hc:c≠0):SN fs x=none:=by
 unfold SN;exact dif_neg (λ⟨gs',k⟩=>hc (T.yG k h).1)
theorem AY(h:T.Yh fs n 0 gs):drF fs n=some gs:=by
 have a:∃gs,T.Yh fs n 0 gs:=⟨gs,h⟩;unfold drF;rw[dif_pos a];exact U6 some (T.UC h a.choose_spec).2
theorem JY(h:T.Yh fs n c gs)(hc:c≠0):drF fs n=none:=by
 unfold drF;exact dif_neg (λ⟨gs',k⟩=>hc (T.UC k h).1)
end
noncomputable def dn(m:MS)(x:u_):Option MS:=
 if x.kd=1 then(if x.ep=m.ep+1 then some ⟨x.ep,m.fs,m.s⟩ else none)
 else if x.kd=2 then(SN m.fs ⟨x.fn,x.ft⟩).map λgs=>⟨m.ep,gs,m.s⟩
 else if x.kd=3 then(drF m.fs x.fn).map λgs=>⟨m.ep,gs,m.s⟩
 else if x.kd=4 then(if (J_ m.s x.km x.ls x.cd x.tx).2=0 then some ⟨m.ep,m.fs,(J_ m.s x.km x.ls x.cd x.tx).1⟩ else none)
 else some ⟨m.ep,m.fs,⟨m.s.wd,[],[]⟩⟩
noncomputable def rn(f:Nat->u_)(m0:MS):Nat->Option MS
 | 0=>some m0
 | k+1=>(rn f m0 k).bind λm=>dn m (f k)
theorem Ll{f g:Nat->u_}{m0:MS}:∀(k:Nat),(∀i,i<k->f i=g i)->rn f m0 k=rn g m0 k
 | 0,_=>rfl
 | k+1,h=>by
  unfold rn;rw[Ll k (λi hi=>h i O0),h k O0]
theorem FK{f:Nat->u_}{m0 m:MS}{k n:Nat}(hk:k<=n)(h:rn f m0 n=some m):∃m',rn f m0 k=some m':=by
 induction n generalizing m with
 | zero=>
  obtain rfl:k=0:=O0;exact⟨m,h⟩
 | succ n ih=>
  by_cases a:k=n+1
  ·exact⟨m,a▸h⟩
  unfold rn at h
  cases hq:rn f m0 n with
  | none=>rw[hq]at h;cases h
  | some m'=>exact ih O0 hq
def eL(es:LB)(i:Nat):List UInt8:=(es.getD i ByteArray.empty).data.toList
def rH(R:List UInt8->u_->Bool->Prop)(es:LB)(m0:MS)(o:Option MS):Prop:=
 (∃f m,(∀i,i<es.length->R (eL es i) (f i) true)/\rn f m0 es.length=some m/\o=some m)\/
 (o=none/\∃k f m,k<es.length/\(∀i,i<k->R (eL es i) (f i) true)/\rn f m0 k=some m/\(R (eL es k) Ji false\/(R (eL es k) (f k) true/\dn m (f k)=none)))
theorem MQ{l:List UInt8}{x y:u_}(h:RES l x true)(k:RE l y true):x=y:=(qE h k (λc=>by cases c) (λc=>by cases c)).2
theorem a0U{es:LB}{m0:MS}{o n:Option MS}(h:rH RES es m0 o)(s:rH RE es m0 n):o=n:=by
 rcases h with⟨f,m,hf,hm,rfl⟩|⟨rfl,k,f,m,r,hf,hm,hx⟩
 ·rcases s with⟨g,m',b,l,rfl⟩|⟨rfl,k',g,m',p,b,l,j⟩
  ·rw[Ll es.length (λi d=>MQ (hf i d) (b i d)),l]at hm;exact hm.symm
  exfalso;have e:=Ll (m0:=m0) k' (λi d=>MQ (hf i O0) (b i d));rw[l]at e;obtain⟨q,a⟩:=FK (k:=k'+1) O0 hm;unfold rn at a;rw[e]at a;rcases j with j|⟨j,hd⟩
  ·have:=(qE (hf k' p) j (λc=>by cases c) (λ_=>rfl)).1;cases this
  rw[MQ (hf k' p) j]at a;rw[show((some m').bind λm=>dn m (g k'))=dn m' (g k') from rfl,hd]at a;cases a
 rcases s with⟨g,m',b,l,rfl⟩|⟨rfl,_⟩;rotate_left
 ·rfl
 exfalso;have e:=Ll (m0:=m0) k (λi d=>MQ (hf i d) (b i O0));rw[hm]at e;obtain⟨q,a⟩:=FK (k:=k+1) O0 l;unfold rn at a;rw[<- e]at a;rcases hx with hx|⟨hx,hd⟩
 ·have:=(qE hx (b k r) (λ_=>rfl) (λc=>by cases c)).1;cases this
 rw[<- MQ hx (b k r)]at a;rw[show((some m).bind λq=>dn q (f k))=dn m (f k) from rfl,hd]at a;cases a
theorem FU{W:Int}{ts:LB}(h:jk W ts){k:Nat}(b:k<ts.length)(h0:k≠0):Op.bytesLess (G6 (ts.getD (k-1) ByteArray.empty) W).toList (G6 (ts.getD k ByteArray.empty) W).toList=true:=by
 have a:=xP.1 h (k-1) k X7 (by simpa using b) O0;simp only[OE]at a;have e1:ts.getD (k-1) ByteArray.empty=ts[k-1]:=by simp[List.getD,show k-1<ts.length by omega]
 have c:ts.getD k ByteArray.empty=ts[k]:=by simp[List.getD,b]
 rw[lK,e1,c];unfold gT Dq at a;rw[<- ByteArray.toList_eq,<- ByteArray.toList_eq]at a;exact a
theorem a0T{ls:List L4}(h:∀x∈ls,Oh x){r:Int×ByteArray}(hr:r∈B_ ls):vr r.1 r.2.data.toList=true:=by
 induction ls with
 | nil=>cases hr
 | cons x l ih=>
  unfold B_ at hr;split at hr
  ·exact ih (λy a=>h y (vg _ a)) hr
  rcases je.1 hr with rfl|hr
  ·rename_i b;rcases(h x (Nq ..)).2 with⟨k,_⟩|⟨_,k⟩
   ·exact absurd k b
   exact k
  exact ih (λy a=>h y (vg _ a)) hr
theorem uV{ls:List L4}(h:Ee ls):∀x∈ls,Oh x:=λx hx=>by
 obtain⟨i,a,rfl⟩:=Ce hx;have:=h.2 i a
 rwa[show ls.getD i l_=ls[i] from by simp[List.getD,a]]at this
theorem SL{s:St}{m:M3}{ls:List L4}{c:Int}{t:BY}(h:Zg s)(a:t_ s.wd s.ts s.rs m ls c t=0):Zg ⟨s.wd,(Q7 s.wd (Sl ls c t) (s.ts,true)).1,yg s.rs (Wh s.wd m ls c t)⟩:=by
 have hr:bg m ls c t:=by
  unfold t_ at a;split at a
  ·cases a
  rename_i j;exact tJ.1 j
 have hl:(Q7 s.wd (Sl ls c t) (s.ts,true)).1.length<=300/\(yg s.rs (Wh s.wd m ls c t)).length<=150:=by
  unfold t_ at a;rw[Y7 (λk=>k hr)]at a;split at a
  ·cases a
  split at a
  ·cases a
  rename_i j;omega
 refine⟨h.1,⟨hl.1,λk a=>⟨?_,?_⟩⟩,hl.2,λi d=>?_⟩
 ·have hm:=Ru a;have hm:=Nz _ _ hm;dsimp only at hm ⊢;generalize (Q7 s.wd (Sl ls c t) (s.ts,true)).1.getD k ByteArray.empty=q at hm ⊢;rcases hm with hm|hm
  ·obtain⟨r,l,rfl⟩:=Zm.1 hm;rcases Cf.1 l with h1|h1
   ·exact⟨_,_,TF (a0T (uV hr.2.1) h1)⟩
   obtain rfl:=jo.1 h1;exact⟨_,_,TF hr.2.2⟩
  obtain⟨i,d,e⟩:=Ce hm;have:=(h.2.1.2 i d).1
  rwa[show s.ts.getD i ByteArray.empty=s.ts[i] from by simp[List.getD,d],e]at this
 ·by_cases h0:k=0
  ·exact .inl h0
  exact .inr (FU (Fz (Wp h)) a h0)
 have key:∀x∈yg s.rs (Wh s.wd m ls c t),bH s.wd x:=λx hx=>by
  have:x∈s.rs\/x=Wh s.wd m ls c t:=by
   unfold yg at hx;split at hx
   ·exact .inl hx
   simpa using hx
  rcases this with hx|rfl
  ·obtain⟨i,d,rfl⟩:=Ce hx;have:=h.2.2.2 i d
   rwa[show s.rs.getD i j_=s.rs[i] from by simp[List.getD,d]]at this
  have f:∀b:BY,((G6 b s.wd).size:Int)=s.wd:=λb=>by rw[pq h.1];have:=h.1;omega
  refine⟨⟨UH hr.1,f _,by show(ls.map _).length<=15;rw[Je];exact hr.2.1.1⟩,λi d=>?_⟩;have g:i<ls.length:=by simpa[Wh]using d
  have e:(Wh s.wd m ls c t).gs.getD i ah=Ux s.wd (ls.getD i l_):=by simp[Wh,List.getD,g]
  rw[e];exact⟨(hr.2.1.2 i g).1,f _⟩
 have:=key _ (ji d)
 rwa[show(yg s.rs (Wh s.wd m ls c t)).getD i j_=(yg s.rs (Wh s.wd m ls c t))[i] from by have d:i<(yg s.rs (Wh s.wd m ls c t)).length:=d;simp[List.getD,d]]
end Go.Proofs.YtbgdfcmeheaiiaaGreatDoor
namespace Go.Proofs.YtbgdfcmeheaiiaaGreatDoor
open Proofs.Tryz Go.RowKit
variable{W w w':World}{b0 fuel:Nat}{m:MS}{cs vs:List Value}{fs gs:List T.F2}{H α:Type}{enc:TypeId×Value->H}{y:DataW H×List MemPlace}
structure MOk(m:MS):Prop where
 e0:0<=m.ep
 e1:m.ep<=200
 fl:m.fs.length<=40
 fz:∀i,(m.fs.getD i T.P8).le 4000
 st:Zg m.s
structure Rx(w:World)(b0:Nat)(m:MS)(vs:List Value):Prop where
 ok:MOk m
 ex:∃fv tv rv,vs=[.int .i64 0,.int .i64 m.ep,fv,.int .i64 m.s.wd,tv,rv]/\w.ownsRow b0 166 2 fv m.fs.length (T.J3 m.fs)/\Bd w b0 m.s.ts m.s.rs tv rv
theorem Rx.keep(h:Rx w b0 m vs)(a:∀q t,Oj w q t->t≠117->w'.heap[q]?=w.heap[q]?):Rx w' b0 m vs:=by
 obtain⟨fv,tv,rv,h1,h2,c⟩:=h.ex;exact⟨h.ok,fv,tv,rv,h1,G7 h2 (λq b=>a q 166 (N9 h2 b) J6),Es c (λq t hT ht=>a q t hT (by rcases ht with rfl|rfl|rfl<;>decide))⟩
theorem Rx.below(h:Rx w b0 m vs)(a:Bw w w'):Rx w' b0 m vs:=h.keep (λq t hT _=>a.block q (Tm hT))
theorem Jv{fv:Value}(h:w.ownsRow b0 166 2 fv fs.length (T.J3 fs)):∃fa fc,fv=.slice fa fs.length fc/\T.U5 w fa fs:=T.Vk.form h
theorem jC{x:T.F2}(h:T.Ho fs x 0 gs)(hf:∀i,(fs.getD i T.P8).le 4000):gs.length<=40/\∀i,(gs.getD i T.P8).le 4000:=by
 refine⟨T.QS h,?_⟩;rcases h with⟨_,c,_⟩|⟨_,_,c,_⟩|⟨_,_,_,c,_⟩|⟨ht,hx,_,_,k,hk,rfl⟩
 ·exact absurd c J6
 ·exact absurd c J6
 ·exact absurd c J6
 have f:x.le 4000:=by
  unfold T.T_ Y5 at hx;simp only[X_,Zc]at hx;have h1:=hx.1.1;have h2:=hx.2;simp only[Yv]at h1;exact⟨by show x.nm.data.size<=_;omega,O0⟩
 have g:∀y∈T.ins (T.without fs x.nm) k x,y.le 4000:=λy b=>by
  unfold T.ins at b;have hw:∀z∈T.without fs x.nm,z.le 4000:=λz d=>by
   obtain⟨i,a,e⟩:=T.getD_mem (yw.1 d).1;rw[<- e];exact hf i
  rcases Cf.1 b with h|h
  ·exact hw y (VA h)
  rcases je.1 h with rfl|h
  ·exact f
  exact hw y (qI h)
 intro i;by_cases a:i<(T.ins (T.without fs x.nm) k x).length
 ·rw[show(T.ins (T.without fs x.nm) k x).getD i T.P8=(T.ins (T.without fs x.nm) k x)[i] from by simp[List.getD,a]];exact g _ (ji a)
 rw[show(T.ins (T.without fs x.nm) k x).getD i T.P8=T.P8 from by simp[List.getD,Mc (Vw a)]];exact⟨J6,J6⟩
theorem SA{n:BY}(h:T.Yh fs n 0 gs)(hf:∀i,(fs.getD i T.P8).le 4000):gs.length<=40/\∀i,(gs.getD i T.P8).le 4000:=by
 refine⟨T.RN h,?_⟩;rcases h with⟨_,c,_⟩|⟨_,_,c,_⟩|⟨ht,_,_,rfl⟩
 ·exact absurd c J6
 ·exact absurd c J6
 intro i;by_cases a:i<(T.without fs n).length
 ·rw[show(T.without fs n).getD i T.P8=(T.without fs n)[i] from by simp[List.getD,a]];obtain⟨j,hj,e⟩:=T.getD_mem (yw.1 (ji a)).1;rw[<- e];exact hf j
 rw[show(T.without fs n).getD i T.P8=T.P8 from by simp[List.getD,Mc (Vw a)]];exact⟨J6,J6⟩
theorem kT{l:BY}(h:Y5 l.data.toList=true):l.size<=20:=by
 unfold Y5 at h;simp only[X_,Zc,Yv]at h;exact h.1.2
theorem TS{s:St}(h:Zg s):s.le 1048576:=by
 obtain⟨hw,⟨h1,h2⟩,h3,f⟩:=h;refine⟨⟨O0,λi=>?_⟩,O0,λi=>?_⟩
 ·by_cases a:i<s.ts.length
  ·obtain⟨c,t,hr⟩:=(h2 i a).1;obtain⟨hv,e⟩:=hr.1 rfl;have e:=U6 List.length e;have:=UD hv;simp only[Yv,x_]at e;show(s.ts.getD i ByteArray.empty).data.size<=_;omega
  rw[show s.ts.getD i ByteArray.empty=ByteArray.empty from by simp[List.getD,Mc (Vw a)]];decide
 by_cases a:i<s.rs.length;rotate_left
 ·rw[show s.rs.getD i j_=j_ from by simp[List.getD,Mc (Vw a)]];exact⟨J6,J6,(λk=>⟨by show(0:Nat)<=_;omega,by show(0:Nat)<=_;omega⟩),J6⟩
 obtain⟨⟨a1,a2,a3⟩,d⟩:=f i a;refine⟨O0,O0,λk=>?_,O0⟩;by_cases b:k<(s.rs.getD i j_).gs.length
 ·have h5:=kT (d k b).1;have h6:=(d k b).2;exact⟨O0,O0⟩
 rw[show(s.rs.getD i j_).gs.getD k ah=ah from by rw[List.getD,Mc (Vw b)];rfl];exact⟨by show(0:Nat)<=_;omega,by show(0:Nat)<=_;omega⟩
open Go.ChangeShapes Go.WideShapes Go.ChangeAt Go.RowKit
theorem cells9:prog.cellsOf 9=1:=Y0
theorem cells4:prog.cellsOf 4=1:=Y0
theorem cells3:prog.cellsOf 3=1:=Y0
theorem cells22:prog.cellsOf 22=1:=Y0
theorem cells25:prog.cellsOf 25=1:=Y0
theorem cells24:prog.cellsOf 24=2:=Y0
theorem cells27:prog.cellsOf 27=1:=Y0
theorem cells28:prog.cellsOf 28=1:=Y0
theorem cells30:prog.cellsOf 30=3:=Y0
theorem cells31:prog.cellsOf 31=1:=Y0
theorem cells32:prog.cellsOf 32=1:=Y0
theorem cells33:prog.cellsOf 33=1:=Y0
theorem cells35:prog.cellsOf 35=15:=Y0
theorem Ky:prog.cellsOf 101=1:=Y0
theorem Zk:prog.cellsOf 102=2:=Y0
theorem TG:prog.cellsOf 158=6:=Y0
theorem VH:prog.cellsOf 161=3:=Y0
theorem GH:prog.cellsOf 231=2:=Y0
theorem OT:prog.cellsOf 233=1:=Y0
theorem VG:prog.cellsOf 235=3:=Y0
theorem NG:prog.cellsOf 330=4:=Y0
theorem UG:prog.cellsOf 396=3:=Y0
theorem a0A{l:List α}(h:l.length=1):∃a,l=[a]:=by
 match l,h with
 | [a],_=>exact⟨_,rfl⟩
theorem SI{l:List α}(h:l.length=2):∃a a1,l=[a,a1]:=by
 match l,h with
 | [a,a1],_=>exact⟨_,_,rfl⟩
theorem Xv{l:List α}(h:l.length=3):∃a a1 a2,l=[a,a1,a2]:=by
 match l,h with
 | [a,a1,a2],_=>exact⟨_,_,_,rfl⟩
theorem a0a{l:List α}(h:l.length=4):∃b a1 a2 a,l=[b,a1,a2,a]:=by
 match l,h with
 | [b,a1,a2,a],_=>exact⟨_,_,_,_,rfl⟩
theorem jS{l:List α}(h:l.length=6):∃d a1 a2 c b a,l=[d,a1,a2,c,b,a]:=by
 match l,h with
 | [d,a1,a2,c,b,a],_=>exact⟨_,_,_,_,_,_,rfl⟩
theorem qV{l:List α}(h:l.length=15):∃o a1 a2 g f e d c b a n m k j i,l=[o,a1,a2,g,f,e,d,c,b,a,n,m,k,j,i]:=by
 match l,h with
 | [o,a1,a2,g,f,e,d,c,b,a,n,m,k,j,i],_=>exact⟨_,_,_,_,_,_,_,_,_,_,_,_,_,_,_,rfl⟩
theorem Xt(b off i:Nat):(⟨b,off,none⟩:Addr).add i=⟨b,off+i,none⟩:=by unfold Addr.add;split<;>simp_all
theorem own:ownKnob prog.godebug=none:=Y0
theorem laidOut:laidOutB prog=true:=Y0
theorem XV(d:α){sl k:TypeId}{n:Nat}(t:prog.underlying sl=some (.slice k))(hc:prog.cellsOf k=n)(B:0<n)(Q:List Value->α->Prop)
 (hQ:∀fuel cs y,DataW.trod enc prog W 0 (λ_=>true) true fuel k cs=some y->∃x,Q cs x) (hf:DataW.trod enc prog W 0 (λ_=>true) true fuel sl cs=some y):
 ∃(a:OA)(r:Nat)(is:List α),cs=[.slice a is.length r]/\is.length<=maxLen/\Kv W a is d n (λw b o x=>∃c,Q c x/\Bc w b o c):=by
 rcases Go.Deep.open_slice t hf with⟨rfl,_⟩|⟨a,len,r,m,n',D,Pl,rfl,_,hl,hm,l,_,hx⟩
 ·exact⟨none,0,[],rfl,I4 _,.inl rfl⟩
 simp only[if_true]at l;subst l;have E:∀i,i<m->∃x:α,∃c,W.cells? 0 (a.add (i*n)) n=some c/\Q c x:=λi g=>by
  obtain⟨c,h1,h2⟩:=hx i g;obtain⟨x,z⟩:=hQ _ _ _ h2;rw[hc]at h1;exact⟨x,c,h1,z⟩
 obtain⟨V,hV⟩:=@Go.Deep.choose_lt α ⟨d⟩ m (λi x=>∃c,W.cells? 0 (a.add (i*n)) n=some c/\Q c x) E;have j:((List.range len).map V).length=len:=O4;have C:∀i,i<len->((List.range len).map V).getD i d=V i:=λi g=>by simp[List.getD,g]
 refine⟨some a,m,(List.range len).map V,by rw[j],by rw[j];omega,?_⟩;rcases Ku len with h0|h0
 ·exact .inl (by rw[h0];rfl)
 obtain⟨b,off,s⟩:=a;obtain⟨cs0,f,_⟩:=hV 0 O0;obtain⟨_,F,f⟩:=World.cells?_some f;have f:=f 0 B;rw[D9 O0]at f;have u:s=none:=by simpa[Addr.add]using World.cell?_spot f
 subst u;refine .inr ⟨b,off,rfl,?_,λi g=>?_⟩
 ·rw[Xt,Xt]at f;rcases P7 b W.heap.size with h|h
  ·exact h
  simp[World.cell?,Kq h]at f
 rw[j]at g;rw[C i g];obtain⟨c,h1,h2⟩:=hV i O0;refine⟨c,h2,λq v e=>?_⟩;obtain⟨_,F,I⟩:=World.cells?_some h1;have A:q<n:=by have:=(Rl.1 e).1;omega
 have p:=I q A;rw[Xt,Xt]at p;exact p.trans e
theorem y_{t:TypeId}{fs:Array Field}(ht:prog.underlying t=some (.struct fs))(h:DataW.trod enc prog W 0 (λ_=>true) true fuel t cs=some y):
 ∃n,cs.length=prog.cellsOf t/\∀(i:Nat)(f:Field),fs[i]?=some f->∃z,DataW.trod enc prog W 0 (λ_=>true) true n f.type ((cs.drop f.offset).take (prog.cellsOf f.type))=some z:=by
 obtain⟨xs,n,_,rfl,hl,a,hf⟩:=DataW.trod_struct ht h;refine⟨n,hl,λi f e=>?_⟩;have b:i<xs.length:=by rw[a];exact(Ua.1 e).1
 exact⟨xs[i],(hf i f e).trans (D9 b)⟩
abbrev Tr{H:Type}(enc:TypeId×Value->H)(W:World)(n:Nat)(t:TypeId)(cs:List Value)(y:DataW H×List MemPlace):Prop:=DataW.trod enc prog W 0 (λ_=>true) true n t cs=some y
section
variable{H:Type}{enc:TypeId×Value->H}{W:World}{fuel:Nat}{cs:List Value}{y:DataW H×List MemPlace}
theorem Tf{α:Type}(d:α){sl g:TypeId}{n:Nat}(l:prog.underlying sl=some (.slice g))(hc:prog.cellsOf g=n)(m:0<n)(Q:List Value->α->Prop)(R:α->Prop)(hR:R d)
 (hQ:∀fuel cs y,DataW.trod enc prog W 0 (λ_=>true) true fuel g cs=some y->∃x,Q cs x/\R x) (hf:Tr enc W fuel sl cs y):
 ∃(a:OA)(j:Nat)(is:List α),cs=[.slice a is.length j]/\is.length<=maxLen/\(∀i,R (is.getD i d))/\Kv W a is d n (λw b o x=>∃k,Q k x/\Bc w b o k):=by
 obtain⟨a,j,is,e,hl,h⟩:=XV d l hc m (λcs x=>Q cs x/\R x) hQ hf;refine⟨a,j,is,e,hl,λi=>?_,?_⟩
 ·by_cases f:i<is.length
  ·rcases h with h|⟨b,off,_,_,h⟩
   ·subst h;exact hR
   obtain⟨_,h,_⟩:=h i f;exact h.2
  rw[List.getD,Mc O0];exact hR
 rcases h with h|⟨b,off,h1,h2,h⟩
 ·exact .inl h
 exact .inr ⟨b,off,h1,h2,λi f=>by obtain⟨c,h,p⟩:=h i f;exact⟨c,h.1,p⟩⟩
theorem yM(h:Tr enc W fuel 9 cs y):∃x:BY,cs=[.string x]/\x.size<=maxLen:=by
 obtain⟨s,e,_,a⟩:=uf underlying9 h;exact⟨s,e,a⟩
theorem cO(h:Tr enc W fuel 3 cs y):∃x:Int,cs=[.int .i64 x]/\x=x:=by
 obtain⟨s,e,_⟩:=Vg underlying3 h;exact⟨s,e,rfl⟩
theorem lS(h:Tr enc W fuel 231 cs y):∃x:T.F2,cs=VZ x/\x.le maxLen:=by
 obtain⟨n,hl,hf⟩:=y_ underlying231 h;rw[GH]at hl;obtain⟨i,a,rfl⟩:=SI hl;obtain⟨c,h0⟩:=hf 0 _ rfl
 replace h0:Tr enc W n 9 (List.take (prog.cellsOf 9) [i,a]) c:=h0
 rw[cells9]at h0;obtain⟨b,h1⟩:=hf 1 _ rfl
 replace h1:Tr enc W n 9 (List.take (prog.cellsOf 9) [a]) b:=h1
 rw[cells9]at h1;obtain⟨e,e0,_,g⟩:=uf underlying9 h0;simp at e0;obtain⟨d,e1,_,f⟩:=uf underlying9 h1;simp at e1;exact⟨⟨e,d⟩,by rw[e0,e1];rfl,g,f⟩
theorem NR(h:Tr enc W fuel 161 cs y):∃x:Jb,cs=IU x/\x.nm.size<=maxLen:=by
 obtain⟨n,hl,hf⟩:=y_ underlying161 h;rw[VH]at hl;obtain⟨k,b,c2,rfl⟩:=Xv hl;obtain⟨e,h0⟩:=hf 0 _ rfl
 replace h0:Tr enc W n 9 (List.take (prog.cellsOf 9) [k,b,c2]) e:=h0
 rw[cells9]at h0;obtain⟨d,h1⟩:=hf 1 _ rfl
 replace h1:Tr enc W n 3 (List.take (prog.cellsOf 3) [b,c2]) d:=h1
 rw[cells3]at h1;obtain⟨c,h2⟩:=hf 2 _ rfl
 replace h2:Tr enc W n 3 (List.take (prog.cellsOf 3) [c2]) c:=h2
 rw[cells3]at h2;obtain⟨i,e0,_,j⟩:=uf underlying9 h0;simp at e0;obtain⟨g,e1,_,_⟩:=Vg underlying3 h1;simp at e1;obtain⟨f,a,_,_⟩:=Vg underlying3 h2;simp at a;exact⟨⟨i,g,f⟩,by rw[e0,e1,a];rfl,j⟩
theorem nS(h:Tr enc W fuel 396 cs y):∃x:G3,cs=UZ x/\x.le maxLen:=by
 obtain⟨n,hl,hf⟩:=y_ underlying396 h;rw[UG]at hl;obtain⟨l,b,c2,rfl⟩:=Xv hl;obtain⟨e,h0⟩:=hf 0 _ rfl
 replace h0:Tr enc W n 4 (List.take (prog.cellsOf 4) [l,b,c2]) e:=h0
 rw[cells4]at h0;obtain⟨d,h1⟩:=hf 1 _ rfl
 replace h1:Tr enc W n 9 (List.take (prog.cellsOf 9) [b,c2]) d:=h1
 rw[cells9]at h1;obtain⟨c,h2⟩:=hf 2 _ rfl
 replace h2:Tr enc W n 9 (List.take (prog.cellsOf 9) [c2]) c:=h2
 rw[cells9]at h2;obtain⟨i,e0,_⟩:=vw underlying4 h0;simp at e0;obtain⟨g,e1,_,k⟩:=uf underlying9 h1;simp at e1;obtain⟨f,a,_,j⟩:=uf underlying9 h2;simp at a;exact⟨⟨i,g,f⟩,by rw[e0,e1,a];rfl,k,j⟩
theorem Dj(h:Tr enc W fuel 102 cs y):∃(c:Int)(t:BY),cs=[.int .i64 c,.string t]/\t.size<=maxLen:=by
 obtain⟨n,hl,hf⟩:=y_ underlying102 h;rw[Zk]at hl;obtain⟨i,a,rfl⟩:=SI hl;obtain⟨d,h0⟩:=hf 0 _ rfl
 replace h0:Tr enc W n 3 (List.take (prog.cellsOf 3) [i,a]) d:=h0
 rw[cells3]at h0;obtain⟨b,h1⟩:=hf 1 _ rfl
 replace h1:Tr enc W n 9 (List.take (prog.cellsOf 9) [a]) b:=h1
 rw[cells9]at h1;obtain⟨f,e0,_,_⟩:=Vg underlying3 h0;simp at e0;obtain⟨e,e1,_,g⟩:=uf underlying9 h1;simp at e1;exact⟨f,e,by rw[e0,e1],g⟩
theorem nI(h:Tr enc W fuel 330 cs y):∃x:L4,cs=lkE x/\x.le maxLen:=by
 obtain⟨n,hl,hf⟩:=y_ underlying330 h;rw[NG]at hl;obtain⟨k,b,c2,c3,rfl⟩:=a0a hl;obtain⟨f,h0⟩:=hf 0 _ rfl
 replace h0:Tr enc W n 4 (List.take (prog.cellsOf 4) [k,b,c2,c3]) f:=h0
 rw[cells4]at h0;obtain⟨e,h1⟩:=hf 1 _ rfl
 replace h1:Tr enc W n 9 (List.take (prog.cellsOf 9) [b,c2,c3]) e:=h1
 rw[cells9]at h1;obtain⟨d,h2⟩:=hf 2 _ rfl
 replace h2:Tr enc W n 102 (List.take (prog.cellsOf 102) [c2,c3]) d:=h2
 rw[Zk]at h2;obtain⟨i,e0,_⟩:=vw underlying4 h0;simp at e0;obtain⟨g,e1,_,j⟩:=uf underlying9 h1;simp at e1;obtain⟨c,t,a,ht⟩:=Dj h2;simp at a;exact⟨⟨i,g,c,t⟩,by rw[e0,e1,a.1,a.2];rfl,j,ht⟩
theorem gy(h:Tr enc W fuel 22 cs y):∃a c is,cs=[.slice a is.length c]/\is.length<=maxLen/\(∀i,(is.getD i ByteArray.empty).size<=maxLen)/\o8 W a is:=by
 obtain⟨a,c,is,e,hl,hr,h⟩:=Tf ByteArray.empty (α:=ByteArray) underlying22 cells9 J6 (λcs x=>cs=[.string x]) (λx=>x.size<=maxLen) (I4 _) (λ_ _ _ h=>yM h) h;refine⟨a,c,is,e,hl,hr,?_⟩;rcases h with h|⟨b,off,h1,h2,f⟩
 ·exact .inl h
 refine .inr ⟨b,off,h1,h2,λi d=>?_⟩;obtain⟨_,rfl,h⟩:=f i d;simpa using h 0 _ rfl
theorem WV(h:Tr enc W fuel 31 cs y):∃a c is,cs=[.slice a is.length c]/\is.length<=maxLen/\(∀i,(is.getD i (0:Int))=(is.getD i (0:Int)))/\Jg W a is:=by
 obtain⟨a,c,is,e,hl,hr,h⟩:=Tf (0:Int) (α:=Int) underlying31 cells3 J6 (λcs x=>cs=[.int .i64 x]) (λx=>x=x) (rfl) (λ_ _ _ h=>cO h) h;refine⟨a,c,is,e,hl,hr,?_⟩;rcases h with h|⟨b,off,h1,h2,f⟩
 ·exact .inl h
 refine .inr ⟨b,off,h1,h2,λi d=>?_⟩;obtain⟨_,rfl,h⟩:=f i d;simpa using h 0 _ rfl
theorem pX(h:Tr enc W fuel 25 cs y):∃a c is,cs=[.slice a is.length c]/\is.length<=maxLen/\(∀i,(is.getD i T.P8).le maxLen)/\T.U5 W a is:=by
 obtain⟨a,c,is,e,hl,hr,h⟩:=Tf T.P8 (α:=T.F2) underlying25 GH J6 (λcs x=>cs=VZ x) (λx=>x.le maxLen) (⟨I4 _,I4 _⟩) (λ_ _ _ h=>lS h) h;refine⟨a,c,is,e,hl,hr,?_⟩;rcases h with h|⟨b,off,h1,h2,f⟩
 ·exact .inl h
 refine .inr ⟨b,off,h1,h2,λi d=>?_⟩;obtain⟨_,rfl,h⟩:=f i d;exact⟨h 0 _ rfl,h 1 _ rfl⟩
theorem ZV(h:Tr enc W fuel 33 cs y):∃a c is,cs=[.slice a is.length c]/\is.length<=maxLen/\(∀i,(is.getD i Zd).nm.size<=maxLen)/\Jl W a is:=by
 obtain⟨a,c,is,e,hl,hr,h⟩:=Tf Zd (α:=Jb) underlying33 VH J6 (λcs x=>cs=IU x) (λx=>x.nm.size<=maxLen) (I4 _) (λ_ _ _ h=>NR h) h;refine⟨a,c,is,e,hl,hr,?_⟩;rcases h with h|⟨b,off,h1,h2,f⟩
 ·exact .inl h
 refine .inr ⟨b,off,h1,h2,λi d=>?_⟩;obtain⟨_,rfl,h⟩:=f i d;exact h
theorem ZW(h:Tr enc W fuel 233 cs y):∃a c is,cs=[.slice a is.length c]/\is.length<=maxLen/\(∀i,(is.getD i ah).le maxLen)/\W_ W a is:=by
 obtain⟨a,c,is,e,hl,hr,h⟩:=Tf ah (α:=G3) underlying233 UG J6 (λcs x=>cs=UZ x) (λx=>x.le maxLen) (⟨I4 _,I4 _⟩) (λ_ _ _ h=>nS h) h;refine⟨a,c,is,e,hl,hr,?_⟩;rcases h with h|⟨b,off,h1,h2,f⟩
 ·exact .inl h
 refine .inr ⟨b,off,h1,h2,λi d=>?_⟩;obtain⟨_,rfl,h⟩:=f i d;exact⟨h 0 _ rfl,h 1 _ rfl,h 2 _ rfl⟩
theorem zF(h:Tr enc W fuel 101 cs y):∃a c is,cs=[.slice a is.length c]/\is.length<=maxLen/\(∀i,(is.getD i l_).le maxLen)/\X6 W a is:=by
 obtain⟨a,c,is,e,hl,hr,h⟩:=Tf l_ (α:=L4) underlying101 NG J6 (λcs x=>cs=lkE x) (λx=>x.le maxLen) (⟨I4 _,I4 _⟩) (λ_ _ _ h=>nI h) h;refine⟨a,c,is,e,hl,hr,?_⟩;rcases h with h|⟨b,off,h1,h2,f⟩
 ·exact .inl h
 refine .inr ⟨b,off,h1,h2,λi d=>?_⟩;obtain⟨_,rfl,h⟩:=f i d;exact⟨h 0 _ rfl,h 1 _ rfl,h 2 _ rfl,h 3 _ rfl⟩
theorem pM(h:Tr enc W fuel 235 cs y):∃x:R3,(∃c q,cs=rcE (x,.slice c x.gs.length q)/\W_ W c x.gs)/\x.le maxLen:=by
 obtain⟨n,hl,hf⟩:=y_ underlying235 h;rw[VG]at hl;obtain⟨r,b,c2,rfl⟩:=Xv hl;obtain⟨f,h0⟩:=hf 0 _ rfl
 replace h0:Tr enc W n 9 (List.take (prog.cellsOf 9) [r,b,c2]) f:=h0
 rw[cells9]at h0;obtain⟨e,h1⟩:=hf 1 _ rfl
 replace h1:Tr enc W n 233 (List.take (prog.cellsOf 233) [b,c2]) e:=h1
 rw[OT]at h1;obtain⟨d,h2⟩:=hf 2 _ rfl
 replace h2:Tr enc W n 9 (List.take (prog.cellsOf 9) [c2]) d:=h2
 rw[cells9]at h2;obtain⟨i,e0,_,m⟩:=uf underlying9 h0;simp at e0;obtain⟨a1,j,gs,e1,o,l,p⟩:=ZW h1;simp at e1;obtain⟨g,a,_,k⟩:=uf underlying9 h2;simp at a;exact⟨⟨i,gs,g⟩,⟨a1,j,by rw[e0,e1,a];rfl,p⟩,m,o,l,k⟩
theorem XO(h:Tr enc W fuel 158 cs y):∃x:Rn,(∃i B,cs=YC (x,.slice i x.ls.length B)/\X6 W i x.ls)/\x.le maxLen:=by
 obtain⟨n,hl,hf⟩:=y_ underlying158 h;rw[TG]at hl;obtain⟨C,g,c2,c3,c9,c13,rfl⟩:=jS hl;obtain⟨o,h0⟩:=hf 0 _ rfl
 replace h0:Tr enc W n 9 (List.take (prog.cellsOf 9) [C,g,c2,c3,c9,c13]) o:=h0
 rw[cells9]at h0;obtain⟨m,h1⟩:=hf 1 _ rfl
 replace h1:Tr enc W n 3 (List.take (prog.cellsOf 3) [g,c2,c3,c9,c13]) m:=h1
 rw[cells3]at h1;obtain⟨l,h2⟩:=hf 2 _ rfl
 replace h2:Tr enc W n 9 (List.take (prog.cellsOf 9) [c2,c3,c9,c13]) l:=h2
 rw[cells9]at h2;obtain⟨k,b⟩:=hf 3 _ rfl
 replace b:Tr enc W n 101 (List.take (prog.cellsOf 101) [c3,c9,c13]) k:=b
 rw[Ky]at b;obtain⟨j,a⟩:=hf 4 _ rfl
 replace a:Tr enc W n 102 (List.take (prog.cellsOf 102) [c9,c13]) j:=a
 rw[Zk]at a;obtain⟨r,e0,_,w⟩:=uf underlying9 h0;simp at e0;obtain⟨q,e1,_,_⟩:=Vg underlying3 h1;simp at e1;obtain⟨p,f,_,v⟩:=uf underlying9 h2;simp at f;obtain⟨D,s,ls,e,z,u,A⟩:=zF b;simp at e;obtain⟨c,t,d,ht⟩:=Dj a;simp at d;exact⟨⟨r,q,p,ls,c,t⟩,⟨D,s,by rw[e0,e1,f,e,d.1,d.2];rfl,A⟩,w,v,⟨z,u⟩,ht⟩
theorem openedR(h:Tr enc W fuel 28 cs y):∃a f is,cs=[.slice a is.length f]/\is.length<=maxLen/\(∀i,(is.getD i j_).le maxLen)/\Eg W a is:=by
 obtain⟨a,f,is,e,hl,hr,h⟩:=Tf j_ (α:=R3) underlying28 VG J6 (λcs x=>∃c d,cs=rcE (x,.slice c x.gs.length d)/\W_ W c x.gs) (λx=>x.le maxLen) (⟨I4 _,I4 _,λ_=>⟨I4 _,I4 _⟩,I4 _⟩) (λ_ _ _ h=>pM h) h;refine⟨a,f,is,e,hl,hr,?_⟩;rcases h with h|⟨b,off,h1,h2,k⟩
 ·exact .inl h
 refine .inr ⟨b,off,h1,h2,λi g=>?_⟩;obtain⟨_,⟨c,d,rfl,j⟩,h⟩:=k i g;exact⟨c,d,h 0 _ rfl,h 1 _ rfl,h 2 _ rfl,j⟩
theorem VU(h:Tr enc W fuel 32 cs y):∃a f is,cs=[.slice a is.length f]/\is.length<=maxLen/\(∀i,(is.getD i Aa).le maxLen)/\uj W a is:=by
 obtain⟨a,f,is,e,hl,hr,h⟩:=Tf Aa (α:=Rn) underlying32 TG J6 (λcs x=>∃c d,cs=YC (x,.slice c x.ls.length d)/\X6 W c x.ls) (λx=>x.le maxLen) (⟨I4 _,I4 _,⟨I4 _,λ_=>⟨I4 _,I4 _⟩⟩,I4 _⟩) (λ_ _ _ h=>XO h) h;refine⟨a,f,is,e,hl,hr,?_⟩;rcases h with h|⟨b,off,h1,h2,k⟩
 ·exact .inl h
 refine .inr ⟨b,off,h1,h2,λi g=>?_⟩;obtain⟨_,⟨c,d,rfl,j⟩,h⟩:=k i g;exact⟨c,d,h,j⟩
theorem dO(h:Tr enc W fuel 24 cs y):∃c e b a1 d a,cs=[.slice c b.length e,.slice a1 a.length d]/\((b.length<=maxLen/\∀i,(b.getD i ByteArray.empty).size<=maxLen)/\o8 W c b)/\(a.length<=maxLen/\∀i,(a.getD i ByteArray.empty).size<=maxLen)/\o8 W a1 a:=by
 obtain⟨n,hl,hf⟩:=y_ underlying24 h;rw[cells24]at hl;obtain⟨r,f,rfl⟩:=SI hl;obtain⟨j,h0⟩:=hf 0 _ rfl
 replace h0:Tr enc W n 22 (List.take (prog.cellsOf 22) [r,f]) j:=h0
 rw[cells22]at h0;obtain⟨g,h1⟩:=hf 1 _ rfl
 replace h1:Tr enc W n 22 (List.take (prog.cellsOf 22) [f]) g:=h1
 rw[cells22]at h1;obtain⟨c,e,b,e0,q,o,l⟩:=gy h0;obtain⟨a1,d,a,e1,p,m,k⟩:=gy h1;simp at e0 e1;exact⟨c,e,b,a1,d,a,by rw[e0,e1],⟨⟨q,o⟩,l⟩,⟨p,m⟩,k⟩
theorem wB(h:Tr enc W fuel 27 cs y):∃a k is,cs=[.slice a is.length k]/\is.length<=maxLen/\(∀i,(is.getD i T.P8).le maxLen)/\T.U5 W a is:=by
 obtain⟨n,hl,hf⟩:=y_ underlying27 h;rw[cells27]at hl;obtain⟨c,rfl⟩:=a0A hl;obtain⟨b,h0⟩:=hf 0 _ rfl
 replace h0:Tr enc W n 25 (List.take (prog.cellsOf 25) [c]) b:=h0
 rw[cells25]at h0;exact pX h0
theorem QG(h:Tr enc W fuel 30 cs y):∃(s:St)(d a1:OA)(u a:Nat),cs=[.int .i64 s.wd,.slice d s.ts.length u,.slice a1 s.rs.length a]/\s.le maxLen/\Ig W d a1 s:=by
 obtain⟨n,hl,hf⟩:=y_ underlying30 h;rw[cells30]at hl;obtain⟨v,c,c2,rfl⟩:=Xv hl;obtain⟨g,h0⟩:=hf 0 _ rfl
 replace h0:Tr enc W n 3 (List.take (prog.cellsOf 3) [v,c,c2]) g:=h0
 rw[cells3]at h0;obtain⟨f,h1⟩:=hf 1 _ rfl
 replace h1:Tr enc W n 22 (List.take (prog.cellsOf 22) [c,c2]) f:=h1
 rw[cells22]at h1;obtain⟨e,h2⟩:=hf 2 _ rfl
 replace h2:Tr enc W n 28 (List.take (prog.cellsOf 28) [c2]) e:=h2
 rw[cells28]at h2;obtain⟨i,e0,_,_⟩:=Vg underlying3 h0;simp at e0;obtain⟨a1,a,r,e1,p,m,k⟩:=gy h1;obtain⟨a2,t,q,b,o,l,j⟩:=openedR h2;simp at e1 b;exact⟨⟨i,r,q⟩,a1,a2,a,t,by rw[e0,e1,b],⟨⟨p,m⟩,o,l⟩,k,j⟩
theorem oU(h:Tr enc W fuel 35 cs y):∃b q,cs=bsV b q/\Bo b maxLen/\Dn W b q:=by
 obtain⟨n,hl,hf⟩:=y_ underlying35 h;rw[cells35]at hl;obtain⟨c0,A,c2,c3,c9,c13,c16,c23,c24,c28,c29,fG,c31,c32,UL,rfl⟩:=qV hl;obtain⟨O,h0⟩:=hf 0 _ rfl
 replace h0:Tr enc W n 3 (List.take (prog.cellsOf 3) [c0,A,c2,c3,c9,c13,c16,c23,c24,c28,c29,fG,c31,c32,UL]) O:=h0
 rw[cells3]at h0;obtain⟨N,h1⟩:=hf 1 _ rfl
 replace h1:Tr enc W n 4 (List.take (prog.cellsOf 4) [A,c2,c3,c9,c13,c16,c23,c24,c28,c29,fG,c31,c32,UL]) N:=h1
 rw[cells4]at h1;obtain⟨J,h2⟩:=hf 2 _ rfl
 replace h2:Tr enc W n 3 (List.take (prog.cellsOf 3) [c2,c3,c9,c13,c16,c23,c24,c28,c29,fG,c31,c32,UL]) J:=h2
 rw[cells3]at h2;obtain⟨I,i⟩:=hf 3 _ rfl
 replace i:Tr enc W n 3 (List.take (prog.cellsOf 3) [c3,c9,c13,c16,c23,c24,c28,c29,fG,c31,c32,UL]) I:=i
 rw[cells3]at i;obtain⟨H,g⟩:=hf 4 _ rfl
 replace g:Tr enc W n 3 (List.take (prog.cellsOf 3) [c9,c13,c16,c23,c24,c28,c29,fG,c31,c32,UL]) H:=g
 rw[cells3]at g;obtain⟨F,f⟩:=hf 5 _ rfl
 replace f:Tr enc W n 24 (List.take (prog.cellsOf 24) [c13,c16,c23,c24,c28,c29,fG,c31,c32,UL]) F:=f
 rw[cells24]at f;obtain⟨E,e⟩:=hf 6 _ rfl
 replace e:Tr enc W n 27 (List.take (prog.cellsOf 27) [c23,c24,c28,c29,fG,c31,c32,UL]) E:=e
 rw[cells27]at e;obtain⟨D,d⟩:=hf 7 _ rfl
 replace d:Tr enc W n 30 (List.take (prog.cellsOf 30) [c24,c28,c29,fG,c31,c32,UL]) D:=d
 rw[cells30]at d;obtain⟨C,c⟩:=hf 8 _ rfl
 replace c:Tr enc W n 31 (List.take (prog.cellsOf 31) [fG,c31,c32,UL]) C:=c
 rw[cells31]at c;obtain⟨B,a⟩:=hf 9 _ rfl
 replace a:Tr enc W n 22 (List.take (prog.cellsOf 22) [c31,c32,UL]) B:=a
 rw[cells22]at a;obtain⟨L,k⟩:=hf 10 _ rfl
 replace k:Tr enc W n 32 (List.take (prog.cellsOf 32) [c32,UL]) L:=k
 rw[cells32]at k;obtain⟨K,j⟩:=hf 11 _ rfl
 replace j:Tr enc W n 33 (List.take (prog.cellsOf 33) [UL]) K:=j
 rw[cells33]at j;obtain⟨V,e0,_,_⟩:=Vg underlying3 h0;simp at e0;obtain⟨U,e1,_⟩:=vw underlying4 h1;simp at e1;obtain⟨S,w,_,_⟩:=Vg underlying3 h2;simp at w;obtain⟨R,v,_,_⟩:=Vg underlying3 i;simp at v;obtain⟨Q,u,_,_⟩:=Vg underlying3 g;simp at u;obtain⟨la0,lk0,ll0,la1,lk1,ll1,p,o,m⟩:=dO f;obtain⟨a6,k6,l6,t,p6,q6,Z⟩:=wB e;obtain⟨P,a7,b7,k7,m7,l,p7,q7⟩:=QG d;obtain⟨a8,k8,l8,s,p8,_,Y⟩:=WV c;obtain⟨a9,k9,l9,r,p9,q9,X⟩:=gy a;obtain⟨a10,k10,l10,z,p10,q10,r10⟩:=VU k;obtain⟨a11,k11,l11,x,p11,q11,r11⟩:=ZV j;simp at p t l s r z x;refine⟨⟨V,U,S,R,Q,ll0,ll1,l6,P,l8,l9,l10,l11⟩,⟨la0,lk0,la1,lk1,a6,k6,a7,k7,b7,m7,a8,k8,a9,k9,a10,k10,a11,k11⟩,?_,⟨o.1.1,o.1.2,m.1.1,m.1.2,p6,q6,p7,p8,p9,q9,p10,q10,p11,q11⟩,o.2,m.2,Z,q7,Y,X,r10,r11⟩;rw[e0,e1,w,v,u,p.1,p.2,t,l.1,l.2.1,l.2.2,s,r,z,x]
end
def cell1 : DataW Unit → Value
  | .lit (.int k n)=>.int k n
  | .lit (.bool b)=>.bool b
  | .lit (.string l)=>.string ⟨l.toArray⟩
  | _=>.bool false
def EZ : DataW Unit → List Value
  | .agg es=>es.map cell1
  | d=>[cell1 d]
def cells2 : DataW Unit → Array Value
  | .agg ds=>(ds.flatMap EZ).toArray
  | _=>#[]
def au(g : Nat)(t : Array Value)(w : World) : World := { w with heap:=w.heap.modify g fun
      | .cells _ ty frozen=>.cells t ty frozen
      | o=>o }
