import Derived.Test.YtbgdfcmeheaiiaaGreatDooryKYB
import Derived.Test.YtbgdfcmeheaiiaaGreatDoorxI
set_option linter.unusedVariables false
set_option linter.unusedSimpArgs false
set_option maxHeartbeats 8000000
set_option maxRecDepth 100000
namespace Go.Proofs.YtbgdfcmeheaiiaaGreatDoor
open Proofs.Tryz Go.RowKit
variable{b:Bs}{e:Ending}
def VSp(b:Bs)(r:Bool):Prop:=(r=false/\¬(Pre b/\1<=b.wd/\b.wd<=8))\/∃cd m,Out RES (b.sf++b.lo) b.wd cd m/\(r=true↔Pre b/\cd=0/\KO b m)
def VIm(b:Bs)(r:Bool):Prop:=(r=false/\¬Pre b)\/∃cd m,Out RE (b.sf++b.lo) b.wd cd m/\(r=true↔Pre b/\cd=0/\VM b m)
theorem AX{m:MS}:rV b m↔Upp b m:=by
 constructor
 ·rintro⟨h1,h2,e,ms,d,a,c⟩;exact⟨h1,h2,e,ms,d,a,(DU a).1 c⟩
 rintro⟨h1,h2,e,ms,d,a,c⟩;exact⟨h1,h2,e,ms,d,a,(DU a).2 c⟩
theorem pW{c a:Bool}(h1:VSp b c)(h2:VIm b a):c=a:=by
 rcases h1 with⟨rfl,h1⟩|⟨cd,m,o1,h1⟩
 ·rcases h2 with⟨rfl,_⟩|⟨cd,m,o2,h2⟩
  ·rfl
  cases a with
  | false=>rfl
  | true=>
   obtain⟨d,k2,_⟩:=h2.1 rfl;rcases o2.2 with⟨_,k,_⟩|⟨k,_⟩
   ·omega
   exact absurd ⟨d,k.1⟩ h1
 rcases h2 with⟨rfl,h2⟩|⟨cd',m',o2,h2⟩
 ·cases c with
  | false=>rfl
  | true=>exact absurd (h1.1 rfl).1 h2
 obtain⟨rfl,rfl⟩:=UW o1 o2;have e:KO b m'↔VM b m':=by
  unfold KO VM;rw[AX]
 rw[NI,h1,h2,e]
theorem a0g(h:(e=.returned (.bool false)/\¬(Pre b/\1<=b.wd/\b.wd<=8))\/∃cd m,Out RES (b.sf++b.lo) b.wd cd m/\Rb (Pre b/\cd=0/\KO b m) e):∃r,e=.returned (.bool r)/\VSp b r:=by
 rcases h with⟨rfl,h⟩|⟨cd,m,h1,r,rfl,h2⟩
 ·exact⟨_,rfl,.inl ⟨rfl,h⟩⟩
 exact⟨r,rfl,.inr ⟨cd,m,h1,h2⟩⟩
theorem a0X(h:(e=.returned (.bool false)/\¬Pre b)\/∃cd m,Out RE (b.sf++b.lo) b.wd cd m/\Rb (Pre b/\cd=0/\VM b m) e):∃r,e=.returned (.bool r)/\VIm b r:=by
 rcases h with⟨rfl,h⟩|⟨cd,m,h1,r,rfl,h2⟩
 ·exact⟨_,rfl,.inl ⟨rfl,h⟩⟩
 exact⟨r,rfl,.inr ⟨cd,m,h1,h2⟩⟩
def WB(n:Nat)(p:Pc):Prop:=0<=p.tw/\p.tw<=n/\p.se.size<=16000/\p.by_.size<=16000
def a1q(n:Nat)(fl:List Pc):Prop:=∀i,i<fl.length->WB n (fl.getD i Vu)
def KR(i:Nat)(x:Yz):Prop:=x.no=(i:Int)+1/\En x
def CP(ws:List Yz):Prop:=∀i,i<ws.length->KR i (ws.getD i Vf)
def Rest(x:Wd):Prop:=x.ky.size<=30/\x.ws.length=x.b.hd.length/\x.fl.length<=500/\x.an.length<=100/\CP x.ws/\a1q x.ws.length x.fl
def WSp(x:Wd)(r:Bool):Prop:=(r=false/\¬Rest x)\/∃s,VSp x.b s/\(r=true↔Rest x/\s=true)
def WIm(x:Wd)(r:Bool):Prop:=(r=false/\¬Rest x)\/∃s,VIm x.b s/\(r=true↔Rest x/\s=true)
theorem up_{P:Nat->Prop}{k:Nat}(h:∀i,i<k->P i)(g:P k):∀i,i<k+1->P i:=λi hi=>by
 rcases P7 i k with h1|h1
 ·exact h i h1
 obtain rfl:i=k:=O0;exact g
theorem mZ(x:Yz)(b:OA)(a:Nat):∀v∈eF (x,.slice b x.of.ls.length a),v.oneCell'=true:=λv hv=>by
 simp[eF]at hv;rcases hv with rfl|rfl|rfl|rfl|rfl|rfl|rfl|rfl|rfl|rfl|rfl|rfl|rfl|rfl|rfl|rfl|rfl|rfl|rfl<;>rfl
theorem MP(x:Pc):∀v∈oD x,v.oneCell'=true:=λv hv=>by
 simp[oD]at hv;rcases hv with rfl|rfl|rfl<;>rfl
section
variable{P:Program}{ops:Array Oper}{Q:Exit->Act->World->Prop}{rest:List Oper}{o:Oper}{a:Act}{w:World}{B:Nat}{t:TypeId}{l:List Value}{v:Value}{j:Nat}
theorem pG(hw:Region.wanted o (yielded ops a.tmps)=true)(hr:(execOp a.eval o).run P w=.ok (.value v) w)(h:wpList P ops Q rest (a.put o.dst v) w):wpList P ops Q (o::rest) a w:=by
 refine wpList_step λK b=>?_;rw[D8 hw];unfold Oper.wp;rw[hr];exact b _ _ h
theorem Lc(H:Cl w B t l)(hw:Region.wanted o (yielded ops a.tmps)=true)(ty:TypeId)(x:Operand)(ho:o.op=.load ty x)(hx:a.eval x=.pointer (some ⟨B,j,none⟩))(hv:l[j]?=some v)(b:(P.underlying ty).map isC=some true)(c:wpList P ops Q rest (a.put o.dst v) w):wpList P ops Q (o::rest) a w:=
 pG hw (Qn ty x ho hx ((H.cell j).trans hv) b) c
theorem TL(H:Cl w B t l)(hw:Region.wanted o (yielded ops a.tmps)=true)(ty:TypeId)(x:Operand)(ho:o.op=.load ty x)(cs:List Value){d:TypeDesc}(hx:a.eval x=.pointer (some ⟨B,j,none⟩))(hc:(l.drop j).take cs.length=cs)(b:P.underlying ty=some d)(hd:(match d with | .struct _ | .array _ _=>true|_=>false)=true)(c:(P.info? ty).map (·.size)=some cs.length)(f:wpList P ops Q rest (a.put o.dst (.agg cs.toArray)) w):wpList P ops Q (o::rest) a w:=
 pG hw (I7 ty x ho hx (λq v e=>(H.cell _).trans (EK hc e)) b hd c) f
end
theorem c20(k:BY)(w:World):Calls prog 20 #[.string k] w λe w'=>e=.returned (.bool (decide (k.size<=30)))/\w'=w:=by
 by_cases h:k.size<=30
 ·have z:(k.size:Int)<=30:=O0
  go_in
  go_wp2;go_ret;exact⟨by simp[h],rfl⟩
 have z:¬(k.size:Int)<=30:=O0
 go_in
 go_wp2;go_ret;exact⟨by simp,rfl⟩
theorem c22(x:Pc)(n:Nat)(w:World):
 Calls prog 22 #[.agg #[.int .i64 x.tw,.string x.se,.string x.by_],.int .i64 n] w λe w'=>Ia (WB n x) e/\Bw w w':=by
 have a:∀o,Bw w (w.alloc o):=λo=>(J4 _ _).alloc (J9 _) _;by_cases h1:0<=x.tw;rotate_left
 ·go_in
  go_wp2;go_ret;exact⟨Z5 (λh=>by have:=h.1;omega),a _⟩
 by_cases h2:x.tw<=n;rotate_left
 ·go_in
  go_wp2;go_ret;exact⟨Z5 (λh=>by have:=h.2.1;omega),a _⟩
 by_cases h3:(x.se.size:Int)<=16000;rotate_left
 ·go_in
  go_wp2;go_ret;exact⟨Z5 (λh=>by have:=h.2.2.1;omega),a _⟩
 by_cases h4:(x.by_.size:Int)<=16000
 ·go_in
  go_wp2;go_ret;exact⟨Jf ⟨h1,h2,O0,O0⟩,a _⟩
 go_in
 go_wp2;go_ret;exact⟨Z5 (λh=>by have:=h.2.2.2;omega),a _⟩
theorem c7(x:Wd)(q:Wa)(w:World)(hl:SB x 1048576)(hsl:x.b.sf.length+x.b.lo.length<=1048576)(hcp:qO x.b q.q)(hv:G.Yo w)(hat:Qx w x q):
 Calls prog 7 #[.agg #[.string x.ky,.int .i64 x.b.wd,.bool x.b.up,.int .i64 x.b.now,.int .i64 x.b.ep,.int .i64 x.b.ed,.slice q.q.sa x.b.sf.length q.q.sc,.slice q.q.la x.b.lo.length q.q.lc,.slice q.q.fa x.b.fs.length q.q.fc,.int .i64 x.b.s.wd,.slice q.q.ta x.b.s.ts.length q.q.tc,.slice q.q.ra x.b.s.rs.length q.q.rc,.slice q.q.ha x.b.hd.length q.q.hc,.slice q.q.oa x.b.rt.length q.q.oc,.slice q.q.na x.b.rn.length q.q.nc,.slice q.q.ja x.b.jb.length q.q.jc,.slice q.wa x.ws.length q.wc,.slice q.pa x.fl.length q.pc,.string x.fg,.slice q.aa x.an.length q.ac]] w λe w'=>(∃r,e=.returned (.bool r)/\WIm x r)/\Bw w w':=by
 have X:=U0 hat;have S:=U0 hl;have HCP:=U0 hcp;have HV:=U0 hv;clear hat hl hcp hv
 go_in
 go_upto_region 1 with fail
 have c:=U0 (U3 w [.string x.ky,.int .i64 x.b.wd,.bool x.b.up,.int .i64 x.b.now,.int .i64 x.b.ep,.int .i64 x.b.ed,.slice q.q.sa x.b.sf.length q.q.sc,.slice q.q.la x.b.lo.length q.q.lc,.slice q.q.fa x.b.fs.length q.q.fc,.int .i64 x.b.s.wd,.slice q.q.ta x.b.s.ts.length q.q.tc,.slice q.q.ra x.b.s.rs.length q.q.rc,.slice q.q.ha x.b.hd.length q.q.hc,.slice q.q.oa x.b.rt.length q.q.oc,.slice q.q.na x.b.rn.length q.q.nc,.slice q.q.ja x.b.jb.length q.q.jc,.slice q.wa x.ws.length q.wc,.slice q.pa x.fl.length q.pc,.string x.fg,.slice q.aa x.an.length q.ac] 58);have t:=U0 (P6 (w:=w) (o:=.cells #[.string x.ky,.int .i64 x.b.wd,.bool x.b.up,.int .i64 x.b.now,.int .i64 x.b.ep,.int .i64 x.b.ed,.slice q.q.sa x.b.sf.length q.q.sc,.slice q.q.la x.b.lo.length q.q.lc,.slice q.q.fa x.b.fs.length q.q.fc,.int .i64 x.b.s.wd,.slice q.q.ta x.b.s.ts.length q.q.tc,.slice q.q.ra x.b.s.rs.length q.q.rc,.slice q.q.ha x.b.hd.length q.q.hc,.slice q.q.oa x.b.rt.length q.q.oc,.slice q.q.na x.b.rn.length q.q.nc,.slice q.q.ja x.b.jb.length q.q.jc,.slice q.wa x.ws.length q.wc,.slice q.pa x.fl.length q.pc,.string x.fg,.slice q.aa x.an.length q.ac] 58));generalize w.alloc (.cells #[.string x.ky,.int .i64 x.b.wd,.bool x.b.up,.int .i64 x.b.now,.int .i64 x.b.ep,.int .i64 x.b.ed,.slice q.q.sa x.b.sf.length q.q.sc,.slice q.q.la x.b.lo.length q.q.lc,.slice q.q.fa x.b.fs.length q.q.fc,.int .i64 x.b.s.wd,.slice q.q.ta x.b.s.ts.length q.q.tc,.slice q.q.ra x.b.s.rs.length q.q.rc,.slice q.q.ha x.b.hd.length q.q.hc,.slice q.q.oa x.b.rt.length q.q.oc,.slice q.q.na x.b.rn.length q.q.nc,.slice q.q.ja x.b.jb.length q.q.jc,.slice q.wa x.ws.length q.wc,.slice q.pa x.fl.length q.pc,.string x.fg,.slice q.aa x.an.length q.ac] 58)=Q at*
 go_wp2_with(refine Lc c.out rfl _ _ rfl rfl rfl Y0 ?_)
 refine(c20 x.ky Q).mono ?_;rintro e w1⟨rfl,hw⟩;obtain rfl:=hw.symm;by_cases h1:x.ky.size<=30;rotate_left
 ·rw[y9 h1];go_wp2;go_ret;exact⟨⟨_,rfl,.inl ⟨rfl,λh=>h1 h.1⟩⟩,t.out⟩
 rw[m_ h1];by_cases h2:x.ws.length=x.b.hd.length;rotate_left
 ·have z:¬(x.ws.length:Int)=x.b.hd.length:=O0
  go_wp2_with(first|(refine Lc c.out rfl _ _ rfl rfl rfl Y0 ?_))
  go_ret;exact⟨⟨_,rfl,.inl ⟨rfl,λh=>h2 h.2.1⟩⟩,t.out⟩
 have z2:(x.b.hd.length:Int)=x.ws.length:=O0;by_cases h3:x.fl.length<=500;rotate_left
 ·have z:(500:Int)<x.fl.length:=O0
  go_wp2_with(first|(refine Lc c.out rfl _ _ rfl rfl rfl Y0 ?_))
  go_ret;exact⟨⟨_,rfl,.inl ⟨rfl,λh=>h3 h.2.2.1⟩⟩,t.out⟩
 have Z:decide ((500:Int)<x.fl.length)=false:=y9 (by omega);by_cases h4:x.an.length<=100;rotate_left
 ·have z:decide ((100:Int)<x.an.length)=true:=m_ (by omega)
  go_wp2_with(first|(rw[Z])|(rw[z])|(refine Lc c.out rfl _ _ rfl rfl rfl Y0 ?_))
  go_ret;exact⟨⟨_,rfl,.inl ⟨rfl,λh=>h4 h.2.2.2.1⟩⟩,t.out⟩
 have z4:decide ((100:Int)<x.an.length)=false:=y9 (by omega)
 go_wp2_with(first|(rw[Z])|(rw[z4])|(refine Lc c.out rfl _ _ rfl rfl rfl Y0 ?_))
 have H2:=U0 h2;clear h2 z2;go_loopw[36] (λi wr=>∃k:Nat,k<=x.ws.length/\i=.int .i64 k/\Hid (∀i,i<k->KR i (x.ws.getD i Vf))/\Below Q.heap.size Q wr) (λi _=>x.ws.length-(RowKit.intOf i).toNat);exact⟨0,I4 _,rfl,λj h=>absurd h (U7 _),J4 _ _⟩;obtain⟨k,hk,rfl,hd,f⟩:=hrel;have m:=U0 (c.out.below f c.out.lt);have a:=U0 (P5 t.out f);have u:=U0 f;clear f;by_cases d:k<x.ws.length;rotate_left
 ·obtain rfl:k=x.ws.length:=O0;have HW:Hid (CP x.ws):=hd;clear hd m a;have Y:=U0 (c.out.below u.out c.out.lt);have B1:=U0 (P5 t.out u.out);clear c t u;generalize wr=V1 at*
  go_wp2_with(refine Lc Y.out rfl _ _ rfl rfl rfl Y0 ?_)
  go_loopw[55] (λi wr=>∃k:Nat,k<=x.fl.length/\i=.int .i64 k/\Hid (∀i,i<k->WB x.ws.length (x.fl.getD i Vu))/\Below V1.heap.size V1 wr) (λi _=>x.fl.length-(RowKit.intOf i).toNat);exact⟨0,I4 _,rfl,λj h=>absurd h (U7 _),J4 _ _⟩;obtain⟨k,hk,rfl,hd,f⟩:=hrel;have m:=U0 (Y.out.below f Y.out.lt);have a:=U0 (P5 B1.out f);have u:=U0 f;clear f;by_cases d:k<x.fl.length;rotate_left
  ·obtain rfl:k=x.fl.length:=O0;have HR:Hid (Rest x):=⟨h1,H2.out,h3,h4,HW.out,hd.out⟩;clear hd
   go_wp2_with(refine TL m.out rfl 53 _ rfl (j:=1) [.int .i64 x.b.wd,.bool x.b.up,.int .i64 x.b.now,.int .i64 x.b.ep,.int .i64 x.b.ed,.slice q.q.sa x.b.sf.length q.q.sc,.slice q.q.la x.b.lo.length q.q.lc,.slice q.q.fa x.b.fs.length q.q.fc,.int .i64 x.b.s.wd,.slice q.q.ta x.b.s.ts.length q.q.tc,.slice q.q.ra x.b.s.rs.length q.q.rc,.slice q.q.ha x.b.hd.length q.q.hc,.slice q.q.oa x.b.rt.length q.q.oc,.slice q.q.na x.b.rn.length q.q.nc,.slice q.q.ja x.b.jb.length q.q.jc] rfl rfl underlying53 rfl Y0 ?_)
   refine(c23 x.b q.q wr S.out.b hsl HCP.out (HV.out.below a.out) (X.out.b.below a.out)).mono ?_;rintro e w4⟨h,l⟩;obtain⟨s,rfl,hs⟩:=a0X h;have HS:=U0 hs;have p:=U0 (P5 a.out l);clear h hs l;go_wp2;go_ret;exact⟨⟨_,rfl,.inr ⟨s,HS.out,⟨λh=>⟨HR.out,h⟩,λh=>h.2⟩⟩⟩,p.out⟩
  obtain⟨b,off,hc⟩:=J8 X.out.fl;obtain⟨ha,O,A⟩:=hc.resolve_left (λh=>by rw[h]at d;exact absurd d (U7 _));have K:=U0 ((A k d).below O a.out);have V:Hid (WB x.ws.length (x.fl.getD k Vu)->∀i,i<k+1->WB x.ws.length (x.fl.getD i Vu)):=λg=>up_ hd.out g;have J:Hid (¬WB x.ws.length (x.fl.getD k Vu)->¬Rest x):=λN h=>N (h.2.2.2.2.2 k d);have W:=U0 ha;generalize x.fl.getD k Vu=y at*;clear hc A hd ha
  go_upto_region 12 with(first|(rw[W.out])|(refine b_ rfl (I7 80 _ rfl (B:=b) (j:=off+k*3) (cs:=oD y) rfl K.out underlying80 rfl Y0) ?_)|(refine N8 rfl 80 _ _ rfl (j:=0) rfl rfl (U3 wr [.int .i64 0,.string ⟨#[]⟩,.string ⟨#[]⟩] 80) Y8 (MP y) Y0 ?_;intro z C v)|(refine Lc m.out rfl _ _ rfl rfl rfl Y0 ?_))
  have H:Hid (Cl z wr.heap.size 80 (oD y)):=C;have n:=U0 ((P6 (w:=wr) (o:=.cells #[.int .i64 0,.string ⟨#[]⟩,.string ⟨#[]⟩] 80)).trans (v.below (J9 _)));have CR2:=U0 (m.out.below n.out m.out.lt);clear C v m
  go_wp2_with(first|(refine TL H.out rfl 80 _ rfl (j:=0) (oD y) rfl rfl underlying80 rfl Y0 ?_)|(refine Lc CR2.out rfl _ _ rfl rfl rfl Y0 ?_))
  refine(c22 y x.ws.length z).mono ?_;rintro e w4⟨⟨r,rfl,hr⟩,l⟩;have p:=U0 (P5 a.out (P5 n.out l));have R:=U0 (P5 u.out (P5 n.out l))
  cases r with
  | false=>
   have F:=U0 (J.out (λh=>by have:=hr.2 h;cases this));go_wp2;go_ret;exact⟨⟨_,rfl,.inl ⟨rfl,F.out⟩⟩,p.out⟩
  | true=>
   have U:=U0 (V.out (hr.1 rfl));go_wp2;go_roundw;exact⟨k+1,O0,by go_num,U,R.out⟩;exact P9
 have hlt2:k<x.b.hd.length:=by have:=H2.out;omega
 obtain⟨b,off,hc⟩:=J8 X.out.ws;obtain⟨ha,O,A⟩:=hc.resolve_left (λh=>by rw[h]at d;exact absurd d (U7 _));obtain⟨p0,gB,gR⟩:=A k d;have K:=U0 (gB.below O a.out);have GR:=U0 (Zn _ _ _ gR a.out);have V:Hid (KR k (x.ws.getD k Vf)->∀i,i<k+1->KR i (x.ws.getD i Vf)):=λg=>up_ (P:=λi=>KR i (x.ws.getD i Vf)) hd.out g;have J:Hid (¬KR k (x.ws.getD k Vf)->¬Rest x):=λN h=>N (h.2.2.2.2.1 k d);have W:=U0 ha;have hxs:=S.out.ws k;generalize x.ws.getD k Vf=y at*;clear hc A hd ha gB gR;obtain⟨E,D,e0,gL⟩:=GR.out;dsimp only at e0 gL;subst e0
 go_upto_region 6 with(first|(rw[W.out])|(refine b_ rfl (I7 77 _ rfl (B:=b) (j:=off+k*19) (cs:=eF (y,.slice E y.of.ls.length D)) rfl K.out underlying77 rfl Y0) ?_)|(refine N8 rfl 77 _ _ rfl (j:=0) rfl rfl (U3 wr [.int .i64 0,.bool false,.bool false,.int .i64 0,.int .i64 0,.int .i64 0,.int .i64 0,.int .i64 0,.string ⟨#[]⟩,.string ⟨#[]⟩,.string ⟨#[]⟩,.slice none 0 0,.int .i64 0,.bool false,.int .i64 0,.string ⟨#[]⟩,.bool false,.string ⟨#[]⟩,.int .i64 0] 77) Y8 (mZ y E D) Y0 ?_;intro z C v)|(refine Lc m.out rfl _ _ rfl rfl rfl Y0 ?_))
 have H:Hid (Cl z wr.heap.size 77 (eF (y,.slice E y.of.ls.length D))):=C;have n:=U0 ((P6 (w:=wr) (o:=.cells #[.int .i64 0,.bool false,.bool false,.int .i64 0,.int .i64 0,.int .i64 0,.int .i64 0,.int .i64 0,.string ⟨#[]⟩,.string ⟨#[]⟩,.string ⟨#[]⟩,.slice none 0 0,.int .i64 0,.bool false,.int .i64 0,.string ⟨#[]⟩,.bool false,.string ⟨#[]⟩,.int .i64 0] 77)).trans (v.below (J9 _)));clear C v K;have hkb:(k:Int)+1<=1048576:=by have:=S.out.wl;omega
 by_cases I:y.no=(k:Int)+1;rotate_left
 ·have F:=U0 (J.out (λh=>I h.1));have p:=U0 (P5 a.out n.out);have L:(y.no != (k:Int)+1)=true:=by simp[I]
  go_wp2_with(first|(rw[L])|(refine Lc H.out rfl _ _ rfl rfl rfl Y0 ?_))
  go_ret;exact⟨⟨_,rfl,.inl ⟨rfl,F.out⟩⟩,p.out⟩
 have L:(y.no != (k:Int)+1)=false:=by simp[I]
 go_wp2_with(first|(rw[L])|(refine TL H.out rfl 77 _ rfl (j:=0) (eF (y,.slice E y.of.ls.length D)) rfl rfl underlying77 rfl Y0 ?_)|(refine Lc H.out rfl _ _ rfl rfl rfl Y0 ?_))
 refine(c21 y E D z hxs (Z4 gL n.out)).mono ?_;rintro e w4⟨⟨r,rfl,hr⟩,l⟩;have p:=U0 (P5 a.out (P5 n.out l));have R:=U0 (P5 u.out (P5 n.out l))
 cases r with
 | false=>
  have F:=U0 (J.out (λh=>by have:=hr.2 h.2;cases this));go_wp2;go_ret;exact⟨⟨_,rfl,.inl ⟨rfl,F.out⟩⟩,p.out⟩
 | true=>
  have U:=U0 (V.out ⟨I,hr.1 rfl⟩);go_wp2;go_roundw;exact⟨k+1,O0,by go_num,U,R.out⟩;exact P9
end Go.Proofs.YtbgdfcmeheaiiaaGreatDoor
namespace Go.Proofs.YtbgdfcmeheaiiaaGreatDoor
open Proofs.Tryz Go.RowKit
theorem c5(x:Wd)(q:Wa)(w:World)(hl:SB x 1048576)(hsl:x.b.sf.length+x.b.lo.length<=1048576)(hcp:qO x.b q.q)(hat:Qx w x q):
 Calls prog 5 #[.agg #[.string x.ky,.int .i64 x.b.wd,.bool x.b.up,.int .i64 x.b.now,.int .i64 x.b.ep,.int .i64 x.b.ed,.slice q.q.sa x.b.sf.length q.q.sc,.slice q.q.la x.b.lo.length q.q.lc,.slice q.q.fa x.b.fs.length q.q.fc,.int .i64 x.b.s.wd,.slice q.q.ta x.b.s.ts.length q.q.tc,.slice q.q.ra x.b.s.rs.length q.q.rc,.slice q.q.ha x.b.hd.length q.q.hc,.slice q.q.oa x.b.rt.length q.q.oc,.slice q.q.na x.b.rn.length q.q.nc,.slice q.q.ja x.b.jb.length q.q.jc,.slice q.wa x.ws.length q.wc,.slice q.pa x.fl.length q.pc,.string x.fg,.slice q.aa x.an.length q.ac]] w λe w'=>(∃r,e=.returned (.bool r)/\WSp x r)/\Bw w w':=by
 have S:=U0 hat;have O:=U0 hl;have HCP:=U0 hcp;have HV:=U0 trivial;clear hat hl hcp
 go_in
 go_upto_region 1 with fail
 have p:=U0 (U3 w [.string x.ky,.int .i64 x.b.wd,.bool x.b.up,.int .i64 x.b.now,.int .i64 x.b.ep,.int .i64 x.b.ed,.slice q.q.sa x.b.sf.length q.q.sc,.slice q.q.la x.b.lo.length q.q.lc,.slice q.q.fa x.b.fs.length q.q.fc,.int .i64 x.b.s.wd,.slice q.q.ta x.b.s.ts.length q.q.tc,.slice q.q.ra x.b.s.rs.length q.q.rc,.slice q.q.ha x.b.hd.length q.q.hc,.slice q.q.oa x.b.rt.length q.q.oc,.slice q.q.na x.b.rn.length q.q.nc,.slice q.q.ja x.b.jb.length q.q.jc,.slice q.wa x.ws.length q.wc,.slice q.pa x.fl.length q.pc,.string x.fg,.slice q.aa x.an.length q.ac] 58);have I:=U0 (P6 (w:=w) (o:=.cells #[.string x.ky,.int .i64 x.b.wd,.bool x.b.up,.int .i64 x.b.now,.int .i64 x.b.ep,.int .i64 x.b.ed,.slice q.q.sa x.b.sf.length q.q.sc,.slice q.q.la x.b.lo.length q.q.lc,.slice q.q.fa x.b.fs.length q.q.fc,.int .i64 x.b.s.wd,.slice q.q.ta x.b.s.ts.length q.q.tc,.slice q.q.ra x.b.s.rs.length q.q.rc,.slice q.q.ha x.b.hd.length q.q.hc,.slice q.q.oa x.b.rt.length q.q.oc,.slice q.q.na x.b.rn.length q.q.nc,.slice q.q.ja x.b.jb.length q.q.jc,.slice q.wa x.ws.length q.wc,.slice q.pa x.fl.length q.pc,.string x.fg,.slice q.aa x.an.length q.ac] 58));generalize w.alloc (.cells #[.string x.ky,.int .i64 x.b.wd,.bool x.b.up,.int .i64 x.b.now,.int .i64 x.b.ep,.int .i64 x.b.ed,.slice q.q.sa x.b.sf.length q.q.sc,.slice q.q.la x.b.lo.length q.q.lc,.slice q.q.fa x.b.fs.length q.q.fc,.int .i64 x.b.s.wd,.slice q.q.ta x.b.s.ts.length q.q.tc,.slice q.q.ra x.b.s.rs.length q.q.rc,.slice q.q.ha x.b.hd.length q.q.hc,.slice q.q.oa x.b.rt.length q.q.oc,.slice q.q.na x.b.rn.length q.q.nc,.slice q.q.ja x.b.jb.length q.q.jc,.slice q.wa x.ws.length q.wc,.slice q.pa x.fl.length q.pc,.string x.fg,.slice q.aa x.an.length q.ac] 58)=V0 at*;by_cases h1:x.ky.size<=30;rotate_left
 ·have z:decide ((30:Int)<x.ky.size)=true:=m_ (by omega)
  go_wp2_with(first|(rw[z])|(refine Lc p.out rfl _ _ rfl rfl rfl Y0 ?_))
  go_ret;exact⟨⟨_,rfl,.inl ⟨rfl,λh=>h1 h.1⟩⟩,I.out⟩
 have X:decide ((30:Int)<x.ky.size)=false:=y9 (by omega)
 go_wp2_with(first|(rw[X])|(refine TL p.out rfl 53 _ rfl (j:=1) [.int .i64 x.b.wd,.bool x.b.up,.int .i64 x.b.now,.int .i64 x.b.ep,.int .i64 x.b.ed,.slice q.q.sa x.b.sf.length q.q.sc,.slice q.q.la x.b.lo.length q.q.lc,.slice q.q.fa x.b.fs.length q.q.fc,.int .i64 x.b.s.wd,.slice q.q.ta x.b.s.ts.length q.q.tc,.slice q.q.ra x.b.s.rs.length q.q.rc,.slice q.q.ha x.b.hd.length q.q.hc,.slice q.q.oa x.b.rt.length q.q.oc,.slice q.q.na x.b.rn.length q.q.nc,.slice q.q.ja x.b.jb.length q.q.jc] rfl rfl underlying53 rfl Y0 ?_)|(refine Lc p.out rfl _ _ rfl rfl rfl Y0 ?_))
 refine(c13 x.b q.q V0 O.out.b hsl HCP.out (S.out.b.below I.out)).mono ?_;rintro e V1⟨h,a⟩;obtain⟨s,rfl,Z⟩:=a0g h;have HS:=U0 Z;have u:=U0 (P5 I.out a);have f:=U0 (p.out.below a p.out.lt);clear h Z a I p X
 cases s with
 | false=>
  go_wp2;go_ret;exact⟨⟨_,rfl,.inr ⟨false,HS.out,by simp⟩⟩,u.out⟩
 | true=>
  by_cases h2:x.ws.length=x.b.hd.length;rotate_left
  ·have z:¬(x.ws.length:Int)=x.b.hd.length:=O0
   go_wp2_with(first|(refine Lc f.out rfl _ _ rfl rfl rfl Y0 ?_))
   go_ret;exact⟨⟨_,rfl,.inl ⟨rfl,λh=>h2 h.2.1⟩⟩,u.out⟩
  have z2:(x.b.hd.length:Int)=x.ws.length:=O0;by_cases h3:x.fl.length<=500;rotate_left
  ·have z:(500:Int)<x.fl.length:=O0
   go_wp2_with(first|(refine Lc f.out rfl _ _ rfl rfl rfl Y0 ?_))
   go_ret;exact⟨⟨_,rfl,.inl ⟨rfl,λh=>h3 h.2.2.1⟩⟩,u.out⟩
  have W:decide ((500:Int)<x.fl.length)=false:=y9 (by omega);by_cases h4:x.an.length<=100;rotate_left
  ·have z:decide ((100:Int)<x.an.length)=true:=m_ (by omega)
   go_wp2_with(first|(rw[W])|(rw[z])|(refine Lc f.out rfl _ _ rfl rfl rfl Y0 ?_))
   go_ret;exact⟨⟨_,rfl,.inl ⟨rfl,λh=>h4 h.2.2.2.1⟩⟩,u.out⟩
  have z4:decide ((100:Int)<x.an.length)=false:=y9 (by omega)
  go_wp2_with(first|(rw[W])|(rw[z4])|(refine Lc f.out rfl _ _ rfl rfl rfl Y0 ?_))
  have H2:=U0 h2;clear h2 z2;go_loopw[3] (λi wr=>∃k:Nat,k<=x.ws.length/\i=.int .i64 k/\Hid (∀i,i<k->KR i (x.ws.getD i Vf))/\Below V1.heap.size V1 wr) (λi _=>x.ws.length-(RowKit.intOf i).toNat);exact⟨0,I4 _,rfl,λj h=>absurd h (U7 _),J4 _ _⟩;obtain⟨k,hk,rfl,hd,a⟩:=hrel;have C:=U0 (f.out.below a f.out.lt);have t:=U0 (P5 u.out a);have F:=U0 a;clear a;by_cases c:k<x.ws.length;rotate_left
  ·obtain rfl:k=x.ws.length:=O0;have HW:Hid (CP x.ws):=hd;have U:=U0 C.out;have B2:=U0 t.out;clear hd f u F C t;generalize wr=V2 at*
   go_wp2_with(refine Lc U.out rfl _ _ rfl rfl rfl Y0 ?_)
   go_loopw[4] (λi wr=>∃k:Nat,k<=x.fl.length/\i=.int .i64 k/\Hid (∀i,i<k->WB x.ws.length (x.fl.getD i Vu))/\Below V2.heap.size V2 wr) (λi _=>x.fl.length-(RowKit.intOf i).toNat);exact⟨0,I4 _,rfl,λj h=>absurd h (U7 _),J4 _ _⟩;obtain⟨k,hk,rfl,hd,a⟩:=hrel;have n:=U0 (U.out.below a U.out.lt);have V:=U0 (P5 B2.out a);have F:=U0 a;clear a;by_cases c:k<x.fl.length;rotate_left
   ·obtain rfl:k=x.fl.length:=O0;have HR:Hid (Rest x):=⟨h1,H2.out,h3,h4,HW.out,hd.out⟩;clear hd
    go_wp2_with(refine Lc n.out rfl _ _ rfl rfl rfl Y0 ?_)
    go_ret;exact⟨⟨_,rfl,.inr ⟨true,HS.out,⟨λh=>⟨HR.out,h⟩,λh=>h.2⟩⟩⟩,V.out⟩
   obtain⟨b,off,hc⟩:=J8 S.out.fl;obtain⟨ha,L,A⟩:=hc.resolve_left (λh=>by rw[h]at c;exact absurd c (U7 _));have m:=U0 ((A k c).below L V.out);have R:Hid (WB x.ws.length (x.fl.getD k Vu)->∀i,i<k+1->WB x.ws.length (x.fl.getD i Vu)):=λg=>up_ hd.out g;have l:Hid (¬WB x.ws.length (x.fl.getD k Vu)->¬Rest x):=λK h=>K (h.2.2.2.2.2 k c);rw[ha]at n;generalize x.fl.getD k Vu=y at*;clear hc A hd ha
   go_upto_region 12 with(first|(refine b_ rfl (I7 80 _ rfl (B:=b) (j:=off+k*3) (cs:=oD y) rfl m.out underlying80 rfl Y0) ?_)|(refine N8 rfl 80 _ _ rfl (j:=0) rfl rfl (U3 wr [.int .i64 0,.string ⟨#[]⟩,.string ⟨#[]⟩] 80) Y8 (MP y) Y0 ?_;intro z cz Y)|(refine Lc n.out rfl _ _ rfl rfl rfl Y0 ?_))
   have H:Hid (Cl z wr.heap.size 80 (oD y)):=cz;have BY:=U0 ((P6 (w:=wr) (o:=.cells #[.int .i64 0,.string ⟨#[]⟩,.string ⟨#[]⟩] 80)).trans (Y.below (J9 _)));have CX:=U0 (n.out.below BY.out n.out.lt);have D:=U0 (P5 V.out BY.out);have N:=U0 (P5 F.out BY.out);clear cz Y n m BY
   go_wp2_with(first|(refine Lc H.out rfl _ _ rfl rfl rfl Y0 ?_)|(refine Lc CX.out rfl _ _ rfl rfl rfl Y0 ?_))
   refine(c15 y.tw 0 x.ws.length z).mono ?_;rintro e w4⟨rfl,hw⟩;obtain rfl:=hw.symm;by_cases g1:0<=y.tw/\y.tw<=x.ws.length;rotate_left
   ·have d:=U0 (l.out (λh=>g1 ⟨h.1,h.2.1⟩));rw[y9 g1];go_wp2;go_ret;exact⟨⟨_,rfl,.inl ⟨rfl,d.out⟩⟩,D.out⟩
   rw[m_ g1];by_cases g2:y.se.size<=16000;rotate_left
   ·have d:=U0 (l.out (λh=>g2 h.2.2.1));have E:decide ((16000:Int)<y.se.size)=true:=m_ (by omega)
    go_wp2_with(first|(rw[E])|(refine Lc H.out rfl _ _ rfl rfl rfl Y0 ?_))
    go_ret;exact⟨⟨_,rfl,.inl ⟨rfl,d.out⟩⟩,D.out⟩
   have E:decide ((16000:Int)<y.se.size)=false:=y9 (by omega);by_cases g3:y.by_.size<=16000;rotate_left
   ·have d:=U0 (l.out (λh=>g3 h.2.2.2));have J:decide ((16000:Int)<y.by_.size)=true:=m_ (by omega)
    go_wp2_with(first|(rw[E])|(rw[J])|(refine Lc H.out rfl _ _ rfl rfl rfl Y0 ?_))
    go_ret;exact⟨⟨_,rfl,.inl ⟨rfl,d.out⟩⟩,D.out⟩
   have J:decide ((16000:Int)<y.by_.size)=false:=y9 (by omega);have Q:=U0 (R.out ⟨g1.1,g1.2,g2,g3⟩)
   go_wp2_with(first|(rw[E])|(rw[J])|(refine Lc H.out rfl _ _ rfl rfl rfl Y0 ?_))
   go_roundw;exact⟨k+1,O0,by go_num,Q,N.out⟩;exact P9
  obtain⟨b,off,hc⟩:=J8 S.out.ws;obtain⟨ha,L,A⟩:=hc.resolve_left (λh=>by rw[h]at c;exact absurd c (U7 _));obtain⟨p0,gB,gR⟩:=A k c;have m:=U0 (gB.below L t.out);have GR:=U0 (Zn _ _ _ gR t.out);have R:Hid (KR k (x.ws.getD k Vf)->∀i,i<k+1->KR i (x.ws.getD i Vf)):=λg=>up_ (P:=λi=>KR i (x.ws.getD i Vf)) hd.out g;have l:Hid (¬KR k (x.ws.getD k Vf)->¬Rest x):=λK h=>K (h.2.2.2.2.1 k c);rw[ha]at C;have hxs:=O.out.ws k;have hkb:k<1048576:=by have:=O.out.wl;omega
  generalize x.ws.getD k Vf=y at*;clear hc A hd ha gB gR;obtain⟨ai,ci,e0,gL⟩:=GR.out;dsimp only at e0 gL;subst e0;by_cases hno:y.no=(k:Int)+1;rotate_left
  ·have d:=U0 (l.out (λh=>hno h.1))
   go_wp2_with(first|(refine pG rfl (Qn 3 _ rfl (B:=b) (j:=off+k*19) (v:=.int .i64 y.no) rfl (m.out 0 _ rfl) Y0) ?_)|(refine Lc C.out rfl _ _ rfl rfl rfl Y0 ?_))
   go_ret;exact⟨⟨_,rfl,.inl ⟨rfl,d.out⟩⟩,t.out⟩
  go_wp2_with(first|(refine pG rfl (I7 77 _ rfl (B:=b) (j:=off+k*19) (cs:=eF (y,.slice ai y.of.ls.length ci)) rfl m.out underlying77 rfl Y0) ?_)|(refine pG rfl (Qn 3 _ rfl (B:=b) (j:=off+k*19) (v:=.int .i64 y.no) rfl (m.out 0 _ rfl) Y0) ?_)|(refine Lc C.out rfl _ _ rfl rfl rfl Y0 ?_))
  refine(c14 y ai ci wr hxs (Z4 gL (J4 _ _))).mono ?_;rintro e w4⟨⟨r,rfl,hr⟩,hb4⟩;have D:=U0 (P5 t.out hb4);have N:=U0 (P5 F.out hb4)
  cases r with
  | false=>
   have d:=U0 (l.out (λh=>by have:=hr.2 h.2;cases this));go_wp2;go_ret;exact⟨⟨_,rfl,.inl ⟨rfl,d.out⟩⟩,D.out⟩
  | true=>
   have Q:=U0 (R.out ⟨hno,hr.1 rfl⟩);go_wp2;go_roundw;exact⟨k+1,O0,by go_num,Q,N.out⟩;exact P9
theorem a0v{x:Wd}{b a:Bool}(h1:WSp x b)(h2:WIm x a):b=a:=by
 rcases h1 with⟨rfl,h1⟩|⟨s,c,h1⟩
 ·rcases h2 with⟨rfl,_⟩|⟨t,ht,h2⟩
  ·rfl
  cases a with
  | false=>rfl
  | true=>exact absurd (h2.1 rfl).1 h1
 rcases h2 with⟨rfl,h2⟩|⟨t,ht,h2⟩
 ·cases b with
  | false=>rfl
  | true=>exact absurd (h1.1 rfl).1 h2
 obtain rfl:=pW c ht;rw[NI,h1,h2]
theorem a0o(x:Wd)(q:Wa):∀v∈wdV x q,v.oneCell'=true:=by
 intro v hv;simp[wdV]at hv;rcases hv with rfl|rfl|rfl|rfl|rfl|rfl|rfl|rfl|rfl|rfl|rfl|rfl|rfl|rfl|rfl|rfl|rfl|rfl|rfl|rfl<;>rfl
theorem c3(x:Wd)(q:Wa)(w:World)(hl:SB x 9223372036854775807)(hv:G.Yo w)(R:Qx w x q):
 Calls prog 3 #[.agg (wdV x q).toArray] w λe w'=>e=.returned (.bool true)/\Bw w w':=by
 have i:=U0 R;have HL0:=U0 hl;have HV:=U0 hv;clear R hl hv
 go_in
 go_upto_region 2 with fail
 have n:=U0 (U3 w (wdV x q) 40);have J:=U0 (P6 (w:=w) (o:=.cells (wdV x q).toArray 40));generalize w.alloc (.cells (wdV x q).toArray 40)=V at*
 go_wp2_with(refine Ub n.out rfl 40 _ rfl rfl underlying40 rfl Y0 ?_)
 refine(c4 x q 1048576 V (by decide) (by decide) HL0.out (i.out.below J.out)).mono ?_;rintro e w1⟨⟨r,rfl,hr⟩,a⟩;have m:=U0 (n.out.below a n.out.lt);have p:=U0 (P5 J.out a);have A:=U0 hr;clear hr a n J;by_cases hn:r<0
 ·go_wp2;go_ret;exact⟨rfl,p.out⟩
 have f:=U0 (A.out O0).1.1;have O:=(A.out O0).1.2;clear A
 go_upto_region 5 with fail
 go_wp2_with(refine Ub m.out rfl 40 _ rfl rfl underlying40 rfl Y0 ?_)
 refine(c6 x q w1 f.out (i.out.below p.out)).mono ?_;rintro e w2⟨⟨q1,rfl,Q,X⟩,a⟩;have E:=U0 (m.out.below a m.out.lt);have B2:=U0 (P5 p.out a);have H5:=U0 (c5 x q1 w2 f.out O Q X);clear a m p X Q
 go_wp2_with fail
 refine H5.out.mono ?_;rintro e w3⟨⟨r1,rfl,Z⟩,a⟩;have X1:=U0 Z;have l:=U0 (E.out.below a E.out.lt);have I:=U0 (P5 B2.out a);clear a Z H5 E B2
 go_upto_region 6 with fail
 go_wp2_with(refine Ub l.out rfl 40 _ rfl rfl underlying40 rfl Y0 ?_)
 refine(c6 x q w3 f.out (i.out.below I.out)).mono ?_;rintro e c⟨⟨b,rfl,P,W⟩,a⟩;have D:=U0 (l.out.below a l.out.lt);have B4:=U0 (P5 I.out a);have HA2:=U0 W;have HC2:=U0 P;clear a l I W P;have HON:=U0 (a0o x b)
 go_upto_region 7 with(refine N8 rfl 58 _ _ rfl (j:=0) rfl rfl (U3 c [.string ⟨#[]⟩,.int .i64 0,.bool false,.int .i64 0,.int .i64 0,.int .i64 0,.slice none 0 0,.slice none 0 0,.slice none 0 0,.int .i64 0,.slice none 0 0,.slice none 0 0,.slice none 0 0,.slice none 0 0,.slice none 0 0,.slice none 0 0,.slice none 0 0,.slice none 0 0,.string ⟨#[]⟩,.slice none 0 0] 58) Y8 HON.out Y0 ?_;intro z cz N)
 have F:=U0 ((P6 (w:=c) (o:=.cells #[.string ⟨#[]⟩,.int .i64 0,.bool false,.int .i64 0,.int .i64 0,.int .i64 0,.slice none 0 0,.slice none 0 0,.slice none 0 0,.int .i64 0,.slice none 0 0,.slice none 0 0,.slice none 0 0,.slice none 0 0,.slice none 0 0,.slice none 0 0,.slice none 0 0,.slice none 0 0,.string ⟨#[]⟩,.slice none 0 0] 58)).trans (N.below (J9 _)));have k:Hid (Cl z c.heap.size 58 (wdV x b)):=cz;have C:=U0 (D.out.below F.out D.out.lt);have H:=U0 (P5 B4.out F.out);have L:=U0 (HA2.out.below F.out);clear cz N D B4;have H7:=U0 (c7 x b z f.out O HC2.out (HV.out.below H.out) L.out)
 go_wp2_with(refine Ub k.out rfl 58 _ rfl rfl underlying58 rfl Y0 ?_)
 refine H7.out.mono ?_;rintro e h⟨⟨r2,rfl,Y⟩,a⟩;obtain rfl:r1=r2:=a0v X1.out Y;have C6:=U0 (C.out.below a C.out.lt);have D6:=U0 (k.out.below a k.out.lt);have A6:=U0 (L.out.below a);have B6:=U0 (P5 H.out a);clear a Y H7 X1 C k L H
 go_upto_region 10 with fail
 have s:Bw h h.drew:=(J4 _ _).drew;have y:Hid (∀u,Bw h u->Cl u w.heap.size 40 (wdV x q)/\Cl u c.heap.size 58 (wdV x b)):=λu d=>⟨C6.out.below d C6.out.lt,D6.out.below d D6.out.lt⟩;refine wp_region_held_drew (S:=λu=>Cl u w.heap.size 40 (wdV x q)/\Cl u c.heap.size 58 (wdV x b)) Y0 (y.out _ s) λhH=>?_;refine tq 0 hH ?_ (hv:=λu d=>I7 58 _ rfl (B:=c.heap.size) (j:=0) (cs:=wdV x b) rfl (λq v e=>by rw[l7];exact(d.2.cell q).trans e) underlying58 rfl Y0)
 try simp only[qq]
 refine tq 1 hH ?_ (hv:=λu d=>I7 40 _ rfl (B:=w.heap.size) (j:=0) (cs:=wdV x q) rfl (λq v e=>by rw[l7];exact(d.1.cell q).trans e) underlying40 rfl Y0)
 try simp only[qq]
 refine rq 2 λK g=>?_;go_simp;refine(c6 x q h.drew f.out (i.out.below (P5 B6.out s))).mono ?_;rintro e w7⟨⟨q3,rfl,_,U⟩,a⟩;have t:=s.trans (a.mono (J9 _));have A7:=U0 U;clear a U
 go_wp2_with fail
 refine X8 g (y.out _ t) λhH=>?_;clear g K;refine rq 3 λK g=>?_;go_simp;refine(c8 x b q3 w7 f.out (A6.out.below t) A7.out).mono ?_;rintro e w8⟨rfl,a⟩;have b8:=P5 t a;clear a
 go_wp2_with fail
 refine X8 g (y.out _ b8) λhH=>?_;clear g K;refine U8 4 ?_;refine wdn ?_;go_wp2;go_ret;exact⟨rfl,P5 B6.out b8⟩
