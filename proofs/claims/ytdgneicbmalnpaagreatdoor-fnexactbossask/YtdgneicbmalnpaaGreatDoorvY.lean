import Derived.Test.YtdgneicbmalnpaaGreatDoorvI
import Derived.Test.YtdgneicbmalnpaaGreatDoorvQ
set_option maxHeartbeats 0
set_option maxRecDepth 99999
set_option linter.all false
open Go.Value renaming slice->Sa,string->Sb,int->Sc,pointer->Sd
open Go.IntKind renaming i64->Se
open Go.Ending renaming returned->Sf
open Go.Obj renaming cells->Sg
namespace Go.Proofs.YtdgneicbmalnpaaGreatDoor.T
open Proofs.Tryz Go.RowKit
variable{u u' w:World}{B base n size:Nat}{e:TypeId}{A v:Value}{xs:List Value}{gs:List F2}
theorem TF{b j:Nat}{x:Value}(h:w.ownsRow base e size v n xs)(hb:b<base):(w.setCell ⟨b,j,none⟩ x).ownsRow base e size v n xs:=Z4 h (λq a=>(u_ w b j x).block q (λe=>by have:=X4 h a;omega))
def Dy(fs:List F2):List Value:=fs.flatMap λx=>[Sb x.nm,Sb x.tx]
theorem Dt{p:Prop}(h:p):Hid p:=h
theorem lT(fs:List F2)(x:F2):Dy (fs++[x])=Dy fs++[Sb x.nm,Sb x.tx]:=by simp[Dy]
theorem Zx:Inf prog 169 2:=Jc Y0
theorem Oh{t:TypeId}(h:B=w.heap.size):Cl (w.alloc (Sg xs.toArray t)) B t xs:=h▸I4 w xs t
theorem H9(h:w.ownsRow base e size v n xs):∃a c,v=Sa a n c:=by
 rcases h.2 with⟨rfl,rfl⟩|⟨g,cap,cur,rfl,_⟩
 ·exact⟨_,_,rfl⟩
 exact⟨_,_,rfl⟩
theorem Ib(h:Below B w u)(g:u.grownBy u' v.ownBlock)(hz:B<=u.heap.size)(hv:∀k,v.ownBlock=some k->B<=k):Below B w u':=
 ⟨g.os.trans h.os,g.tape.trans h.tape,g.output.trans h.output,X7 h.size g.size,λk hk=>(g.block k O0 (λe=>by have:=hv k e.symm;omega)).trans (h.block k hk)⟩
structure W6(w:World)(A v:Value)(gs:List F2)(u:World):Prop where
 b:Bw w u
 h0:Cl u w.heap.size 40 [A]
 h1:Cl u (w.heap.size+1) 40 [Sa none 0 0]
 h2:Cl u (w.heap.size+1+1) 40 [v]
 ho:u.ownsRow (w.heap.size+3) 169 2 v gs.length (Dy gs)
theorem W6.below(h:W6 w A v gs u)(a:Bw u u'):W6 w A v gs u':=
 ⟨h.b.trans (a.mono h.b.size),h.h0.below a h.h0.lt,h.h1.below a h.h1.lt,h.h2.below a h.h2.lt,ownsRow_below h.ho a⟩
theorem W6.app{v':Value}{x:F2}(h:W6 w A v gs u)(hr:u'.ownsRow (w.heap.size+3) 169 2 v' (gs.length+1) (Dy gs++[Sb x.nm,Sb x.tx]))(c:u.grownBy u' v.ownBlock):Below (w.heap.size+3) u u'/\W6 w A v' (gs++[x]) (u'.setCell ⟨w.heap.size+1+1,0,none⟩ v'):=by
 have k:∀j,v.ownBlock=some j->w.heap.size+3<=j:=λj e=>(h.ho.lt j e).1;have hB:=Ib (O4 (w.heap.size+3) u) c h.h2.lt k;have c2:=h.h2.below hB O0;have hs:=(O4 (w.heap.size+1+1) u').setCell (p:=(aA (w.heap.size+1+1) 0)) A8 v';have a:Below (w.heap.size+1+1) u _:=(hB.mono O0).trans hs;refine⟨hB,h.b.trans (a.mono O0),h.h0.below a O0,h.h1.below a O0,c2.set 0 v',?_⟩;rw[Q9,lT];exact TF hr O0
def nq(nm:BY)(y:F2):Bool:=!(y.nm.toList==nm.toList)
theorem a3e(a:OA)(cap:Nat)(fs:List F2)(nm:BY)(w:World)(hl:fs.length<=1000)(r:P6 w a fs):
 Calls prog 206 #[.agg #[Sa a fs.length cap],Sb nm] w λe w'=>(∃v gs,e=Sf (.agg #[v])/\w'.ownsRow w.heap.size 169 2 v gs.length (Dy gs)/\gs.length<=fs.length/\(∀x∈gs,x∈fs)/\gs=fs.filter (nq nm))/\Bw w w':=by
 obtain⟨b,off,hc⟩:=r_ r;have A:=Dt hc;clear hc r
 go_in
 go_wp2;go_loopw[6] (λi wr=>∃(k:Nat)(v:Value)(gs:List F2),i=Sc Se k/\k<=fs.length/\gs.length<=k/\Hid (gs=(fs.take k).filter (nq nm))/\Hid (W6 w (Sa a fs.length cap) v gs wr)) (λi _=>fs.length-(RowKit.intOf i).toNat);exact⟨0,_,[],rfl,Y4 _,Y7 _,rfl,⟨(U6.alloc J4 _).alloc L8 _,E8 (E8 (I4 w [_] 40) _) _,E8 (Oh (xs:=[_]) J4) _,Oh (xs:=[_]) J4,M_ _ _ _ _⟩⟩;obtain⟨k,v,gs,rfl,hk,hg,h,H⟩:=hrel;obtain⟨va,j,rfl⟩:=H9 H.o.ho;have E:=H.o.h0.cell 0;have t:=H.o.h1.cell 0;have f1:=H.o.h1.opn 0;have D:=H.o.h2.cell 0;dsimp only[List.getElem?_cons_zero]at E t D;by_cases f:k<fs.length;rotate_left
 ·go_wp2;have C:=Jg wr (aA (w.heap.size+1) 0) (vL va gs.length j) t;refine P7 (v:=.agg #[vL va gs.length j]) (by simp[results,results206,go_sem,C]) rfl ⟨⟨_,gs,rfl,Og (TF H.o.ho O0) O0,O0,(λx hx=>by rw[h.o]at hx;exact IA (Ep.1 hx).1),by rw[h.o,p_ O0]⟩,H.o.b.setCell J4 _⟩
 obtain⟨ha,q,l⟩:=Ud A.o f;subst ha;have g0:=(H.o.b.cell (by exact q)).trans (l k f).1;have g1:=(H.o.b.cell (by exact q)).trans (l k f).2;have z:Hid (fs.take (k+1)=fs.take k++[fs.getD k o9]):=by show _=_;rw[SB f];simp[List.getD,f]
 generalize fs.getD k o9=x at*;clear l A;cases hne:(x.nm.toList==nm.toList);rotate_left
 ·have p:Hid (gs=(fs.take (k+1)).filter (nq nm)):=by show _=_;rw[z.o,Kw,<- h.o];simp[nq,hne]
  go_wp2;go_roundw;exact⟨k+1,_,gs,by go_num,O0,O0,p,H⟩;exact V9
 go_wp2_with fail
 refine Cf (S:=λu=>u.cell? (aA (w.heap.size+1+1) 0)=some (vL va gs.length j)/\u.cell? (aW w 0)=some (vL (some (aA b off)) fs.length cap)/\u.cell? (aA b (off+k*2))=some (vS x.nm)/\u.cell? (aA b (off+k*2+1))=some (vS x.tx)) 10 Y0 ?_ λhH=>?_
 · ((try dsimp only);go_keep)
 refine lq 0 hH ?_;refine lq 1 hH ?_;refine lq 2 hH ?_;refine lq 3 hH ?_;refine lq 4 hH ?_;refine lq 5 hH ?_
 try simp only[qq]
 refine lq 6 hH ?_
 try simp only[qq]
 refine lr (i:=7) (o:=⟨some 30,.buildSlice 38 1 #[(0,.tmp 29)],38,_,_,none⟩) rfl U5 Y0 λK c=>?_;go_simp;obtain⟨y,g⟩:∃y:World,y=(wr.alloc (Sg #[vS x.nm,vS x.tx] 169)).drew:=⟨_,rfl⟩;rw[<- g];have m:Bw wr y:=by rw[g];exact U6.drew
 have p:Hid (Cl y wr.heap.size 169 [vS x.nm,vS x.tx]):=by show Cl _ _ _ _;rw[g];exact I4 wr _ 169
 have d:=Dt (H.o.below m);have hbz:=H.o.b.size;have e0:=(m.cell (by show b<_;omega)).trans g0;have e1:=(m.cell (by show b<_;omega)).trans g1;clear g hH;refine G9 c ?_ λhH=>?_
 ·exact⟨d.o.h2.cell 0,d.o.h0.cell 0,e0,e1⟩
 clear c K;refine lr (i:=8) (o:=⟨some 31,.call ⟨.builtin .append,#[.tmp 24,.tmp 30],#[38,38]⟩,38,_,_,none⟩) rfl U5 Y0 λK c=>?_;refine Ob rfl _ _ 38 rfl (w.heap.size+3) 169 2 underlying38 Zx U5 _ gs.length _ rfl d.o.ho _ 1 [vS x.nm,vS x.tx] rfl (.inr ⟨(aW wr 0),1,rfl,rfl,yh p.o⟩) (by simp[Value.oneCell']) O0 d.o.h2.lt ?_;intro v' y2 n g2 _;obtain⟨va',vc',rfl⟩:=H9 n;obtain⟨hB,s⟩:=d.o.app (x:=x) n g2;have c2:=d.o.h2.below hB O0;have F:=Dt s;clear s n g2 hH;refine G9 c ?_ λhH=>?_
 ·exact⟨c2.cell 0,(d.o.h0.below hB O0).cell 0,(hB.cell (by show b<_;omega)).trans e0,(hB.cell (by show b<_;omega)).trans e1⟩
 clear c K;refine lq 9 hH ?_
 try simp only[qq]
 refine lz (o:=⟨none,.store 38 (.tmp 32) (.tmp 31),0,_,_,none⟩) rfl Y0 λK c=>?_;have B:=c2.cell 0;have zf:=c2.opn 0;dsimp only[List.getElem?_cons_zero]at B;go_simp;clear hH;refine c.o _ _ ?_;clear c K
 try simp only[qq]
 refine Ah Y0 ?_ _;go_wp2;go_roundw;exact⟨k+1,_,gs++[x],by go_num,O0,L8,by show _=_;rw[z.o,Kw,<- h.o];simp[nq,hne],F⟩;exact V9
end Go.Proofs.YtdgneicbmalnpaaGreatDoor.T
namespace Go.Proofs.YtdgneicbmalnpaaGreatDoor
open Proofs.Tryz Go.RowKit
theorem c13(sa la:OA)(sc lc:Nat)(sf lo:LB)(l:Int)(w:World)(h0:0<=l)(h1:l<=1048576)(hs:∀i,(sf.getD i ByteArray.empty).size<=9223372036854775807)(g:∀i,(lo.getD i ByteArray.empty).size<=9223372036854775807)(hl:sf.length<=9223372036854775807)(k:lo.length<=9223372036854775807)(n:J8 w sa sf)(m:J8 w la lo):
 Calls prog 13 #[.agg #[Sa sa sf.length sc,Sa la lo.length lc],Sc Se l] w λe w'=>(∃r:Int,e=Sf (Sc Se r)/\(0<=r->(∀i,(sf.getD i ByteArray.empty).size<=1048576)/\(∀i,(lo.getD i ByteArray.empty).size<=1048576)/\sf.length+lo.length<=1048576/\r<=l))/\Bw w w':=by
 have c:=U0 (U6 (w:=w) (o:=Sg #[vL sa sf.length sc,vL la lo.length lc] 24));have hc:=U0 (λr a b=>c17 la lc lo r _ a b g k (G6 m c));have hd:=c17 sa sc sf l _ h0 h1 hs hl (G6 n c)
 go_in
 go_wp2_with fail
 refine hd.mono ?_;rintro e w1⟨⟨r,rfl,hr⟩,rfl⟩;have s:=U0 hr;by_cases j:r<0
 ·go_wp2;go_ret;exact⟨⟨-1,rfl,λh=>O0⟩,c⟩
 obtain⟨p1,f,p3⟩:=s.o O0;have u:=U0 f;have hd:=hc.o r O0 O0
 go_wp2_with fail
 refine hd.mono ?_;rintro e w1⟨⟨q,rfl,hr⟩,rfl⟩;have t:=U0 hr;by_cases j:q<0
 ·go_wp2;go_ret;exact⟨⟨-1,rfl,λh=>O0⟩,c⟩
 obtain⟨q1,d,q3⟩:=t.o O0;have p:=U0 d;go_wp2;go_ret;exact⟨⟨_,rfl,λh=>⟨u,p,O0,O0⟩⟩,c⟩
def Rn.le(x:Rn)(B:Nat):Prop:=x.nm.size<=B/\x.wt.size<=B/\(x.ls.length<=B/\∀i,(x.ls.getD i K_).le B)/\x.tx.size<=B
theorem c57(x:Rn)(a:OA)(b:Nat)(l:Int)(w:World)(h0:0<=l)(h1:l<=1048576)(hs:x.le 9223372036854775807)(v:O9 w a x.ls):
 Calls prog 57 #[.agg #[Sb x.nm,Sc Se x.md,Sb x.wt,Sa a x.ls.length b,Sc Se x.cd,Sb x.tx],Sc Se l] w λe w'=>(∃r:Int,e=Sf (Sc Se r)/\(0<=r->x.le 1048576/\r<=1048576))/\Bw w w':=by
 obtain⟨s1,s2,⟨p,n⟩,m⟩:=hs;have f:=U0 (U6 (w:=w) (o:=Sg #[vS x.nm,vI x.md,vS x.wt,vL a x.ls.length b,vI x.cd,vS x.tx] 104));have c:=U0 (I4 w [vS x.nm,vI x.md,vS x.wt,vL a x.ls.length b,vI x.cd,vS x.tx] 104);have F:=U0 (Q7 v f);have C:=U0 n;have B:=c.o.cell 0;have a2:=c.o.cell 2;have A:=c.o.cell 3;simp only[gz]at B a2 A;by_cases h:l<x.nm.size
 ·go_in
  go_upto_region 1 with fail
  generalize w.alloc (Sg #[vS x.nm,vI x.md,vS x.wt,vL a x.ls.length b,vI x.cd,vS x.tx] 104)=V at*;go_wp2;go_ret;exact⟨⟨-1,rfl,λh=>O0⟩,f⟩
 by_cases h2:l-x.nm.size<x.wt.size
 ·go_in
  go_upto_region 1 with fail
  generalize w.alloc (Sg #[vS x.nm,vI x.md,vS x.wt,vL a x.ls.length b,vI x.cd,vS x.tx] 104)=V at*;go_wp2;go_ret;exact⟨⟨-1,rfl,λh=>O0⟩,f⟩
 go_in
 go_upto_region 1 with fail
 generalize w.alloc (Sg #[vS x.nm,vI x.md,vS x.wt,vL a x.ls.length b,vI x.cd,vS x.tx] 104)=V at*
 go_wp2_with fail
 refine(a6w a b x.ls (l-x.nm.size-x.wt.size) V O0 O0 C p F).mono ?_;rintro e w1⟨⟨r,rfl,hr⟩,d⟩;have D:=U0 hr;have k:=U0 (E5 f d);have i:=U0 (c.o.below d c.o.lt);by_cases u:r<0
 ·go_wp2;go_ret;exact⟨⟨-1,rfl,λh=>O0⟩,k⟩
 obtain⟨t,s,p3⟩:=D.o O0;have E:=U0 s;have z:=i.o.cell 4;have y:=i.o.cell 5;simp only[gz]at z y
 go_wp2_with fail
 refine(c107 x.cd x.tx r w1 m O0 O0).mono ?_;rintro e w2⟨⟨q,rfl,hr⟩,d⟩;have g:=U0 hr;have j:=U0 (E5 k d);by_cases u:q<0
 ·go_wp2;go_ret;exact⟨⟨-1,rfl,λh=>O0⟩,j⟩
 go_wp2;go_ret;exact⟨⟨_,rfl,λh=>⟨⟨O0,O0,⟨t,E⟩,(g h).1⟩,by have:=(g.o h).2;omega⟩⟩,j⟩
theorem a0U(B:Nat):L9.le B:=⟨Y4 _,Y4 _,⟨Y4 _,λi=>⟨Y4 _,Y4 _⟩⟩,Y4 _⟩
theorem c18(a:OA)(cap:Nat)(is:List Rn)(l:Int)(w:World)(h0:0<=l)(h1:l<=1048576)(hs:∀i,(is.getD i L9).le 9223372036854775807)(hl:is.length<=9223372036854775807)(D:Wi w a is):
 Calls prog 18 #[Sa a is.length cap,Sc Se l] w λe w'=>(∃r:Int,e=Sf (Sc Se r)/\(0<=r->is.length<=1048576/\(∀i,(is.getD i L9).le 1048576)/\r<=1048576))/\Bw w w':=by
 obtain⟨b,off,hc⟩:=Z_ D;have J:=U0 hc;have I:=U0 hs;by_cases hbig:l<is.length
 ·go_in
  go_wp2;go_ret;exact⟨⟨-1,rfl,λh=>O0⟩,O4 _ _⟩
 go_in
 go_wp2;go_loopw[1,5] (λt i wr=>∃(k:Nat)(r:Int),k<=is.length/\i=Sc Se k/\t=Sc Se r/\0<=r/\r<=1048576/\Hid (∀i,i<k->(is.getD i L9).le 1048576)/\Below w.heap.size w wr) (λ_ i _=>is.length-(RowKit.intOf i).toNat);exact⟨0,_,Y4 _,rfl,rfl,O0,O0,λi h=>absurd h (U8 _),O4 _ _⟩;obtain⟨k,r,hk,rfl,rfl,y,v,g,f⟩:=hrel;by_cases n:k<is.length;rotate_left
 ·have c:Hid (∀i,(is.getD i L9).le 1048576):=U0 (TS (is:=is) (d:=L9) (R:=λx=>x.le 1048576) (a0U _) (λi h=>g.o i O0));go_wp2;go_ret;exact⟨⟨r,rfl,λ_=>⟨O0,c,v⟩⟩,f⟩
 obtain⟨ha,A,z⟩:=Ud J.o n;subst ha;obtain⟨q,p,F,E⟩:=(z k n).below A f;have K:=U0 F;have u:=I.o k;generalize hx:is.getD k L9=x at*;have H:=U0 hx
 go_wp2_with(refine Oa rfl (N9 104 _ rfl (B:=b) (j:=off+k*6) (cs:=Td (x,vL q x.ls.length p)) rfl K.o underlying104 rfl Y0) ?_)
 refine(c57 x q p r wr y O0 u E).mono ?_;rintro e w1⟨⟨s,rfl,hr⟩,C⟩;have o:=E5 f C;by_cases hneg:s<0
 ·clear hr;go_wp2;go_ret;exact⟨⟨-1,rfl,λh=>O0⟩,o⟩
 have m:=hr O0;have c:Hid (∀i,i<k+1->(is.getD i L9).le 1048576):=by
  intro i h;rcases Z7 i k with h1|h1
  ·exact g i h1
  obtain rfl:i=k:=O0;rw[H.o];exact m.1
 have hr2:=m.2;go_wp2;go_roundw;exact⟨k+1,_,O0,by go_num,rfl,O0,O0,c,o⟩;exact V9
structure Bs where
 wd:Int
 up:Bool
 now:Int
 ep:Int
 ed:Int
 sf:LB
 lo:LB
 fs:List T.F2
 s:St
 hd:List Int
 rt:LB
 rn:List Rn
 jb:List Jb
structure Ba where
 sa:OA
 sc:Nat
 la:OA
 lc:Nat
 fa:OA
 fc:Nat
 ta:OA
 tc:Nat
 ra:OA
 rc:Nat
 ha:OA
 hc:Nat
 oa:OA
 oc:Nat
 na:OA
 nc:Nat
 ja:OA
 jc:Nat
@[go_sem] abbrev bsV(b:Bs)(q:Ba):List Value:=[Sc Se b.wd,.bool b.up,Sc Se b.now,Sc Se b.ep,Sc Se b.ed,Sa q.sa b.sf.length q.sc,Sa q.la b.lo.length q.lc,Sa q.fa b.fs.length q.fc,Sc Se b.s.wd,Sa q.ta b.s.ts.length q.tc,Sa q.ra b.s.rs.length q.rc,Sa q.ha b.hd.length q.hc,Sa q.oa b.rt.length q.oc,Sa q.na b.rn.length q.nc,Sa q.ja b.jb.length q.jc]
structure jh(w:World)(b:Bs)(q:Ba):Prop where
 sf:J8 w q.sa b.sf
 lo:J8 w q.la b.lo
 fs:T.P6 w q.fa b.fs
 st:xh w q.ta q.ra b.s
 hd:Zf w q.ha b.hd
 rt:J8 w q.oa b.rt
 rn:Wi w q.na b.rn
 jb:Qj w q.ja b.jb
theorem jh.below{w w':World}{b:Bs}{q:Ba}(h:jh w b q)(a:Bw w w'):jh w' b q:=⟨G6 h.sf a,G6 h.lo a,T.J5 h.fs a,h.st.below a,Uh h.hd a,G6 h.rt a,Jf h.rn a,Om h.jb a⟩
def PN(b:Bs)(q:Ba):Prop:=b.rt.length<=q.oc/\b.jb.length<=q.jc/\b.lo.length<=q.lc
structure lg(b:Bs)(B:Nat):Prop where
 sl:b.sf.length<=B
 ss:∀i,(b.sf.getD i ByteArray.empty).size<=B
 ll:b.lo.length<=B
 ls:∀i,(b.lo.getD i ByteArray.empty).size<=B
 fl:b.fs.length<=B
 fz:∀i,(b.fs.getD i T.o9).le B
 st:b.s.le B
 hl:b.hd.length<=B
 rl:b.rt.length<=B
 rs:∀i,(b.rt.getD i ByteArray.empty).size<=B
 nl:b.rn.length<=B
 ns:∀i,(b.rn.getD i L9).le B
 jl:b.jb.length<=B
 js:∀i,(b.jb.getD i Ea).nm.size<=B
@[go_sem] abbrev bz:List Value:=[Sc Se 0,.bool false,Sc Se 0,Sc Se 0,Sc Se 0,Sa none 0 0,Sa none 0 0,Sa none 0 0,Sc Se 0,Sa none 0 0,Sa none 0 0,Sa none 0 0,Sa none 0 0,Sa none 0 0,Sa none 0 0]
structure BsO(A B:Nat)(u:World)(b:Bs)(q:Ba):Prop where
 sf:Ow A B u q.sa 9 b.sf.length
 lo:Ow A B u q.la 9 b.lo.length
 fs:Ow A B u q.fa 169 (b.fs.length*2)
 ts:Ow A B u q.ta 9 b.s.ts.length
 rs:OwN A B u q.ra 179 b.s.rs.length 3 1 235 3
 hd:Ow A B u q.ha 3 b.hd.length
 rt:Ow A B u q.oa 9 b.rt.length
 rn:OwN A B u q.na 119 b.rn.length 6 3 213 4
 jb:Ow A B u q.ja 124 (b.jb.length*3)
theorem c6(b:Bs)(q:Ba)(w:World)(hl:lg b 1048576)(K:jh w b q):
 Calls prog 6 #[.agg (bsV b q).toArray] w λe w'=>(∃m,e=Sf (.agg (bsV b m).toArray)/\jh w' b m/\PN b m/\BsO w.heap.size w'.heap.size w' b m)/\Bw w w':=by
 have d:=U0 K;have c:=U0 hl;clear K hl
 go_in
 go_upto_region 2 with fail
 have H:=U0 (Uj (w:=w) (ta:=35) (tr:=47) (ar:=bsV b q) (zs:=bz));generalize ((w.alloc (Sg (bsV b q).toArray 35)).alloc (Sg bz.toArray 47)).alloc (Sg bz.toArray 47)=V at*
 go_wp2_with(first|(refine D9 H.o.ca rfl 24 _ rfl (j:=5) [Sa q.sa b.sf.length q.sc,Sa q.la b.lo.length q.lc] rfl rfl underlying24 rfl Y0 ?_)|(refine J7 H.o.ca rfl _ _ rfl rfl rfl Y0 ?_)|(refine Ye H.o rfl 3 _ _ rfl (j:=0) (Sc Se b.wd) rfl rfl rfl (Xa rfl) Y0 ?_;clear H;intro V H)|(refine Ye H.o rfl 4 _ _ rfl (j:=1) (.bool b.up) rfl rfl rfl (Xa rfl) Y0 ?_;clear H;intro V H)|(refine Ye H.o rfl 3 _ _ rfl (j:=2) (Sc Se b.now) rfl rfl rfl (Xa rfl) Y0 ?_;clear H;intro V H)|(refine Ye H.o rfl 3 _ _ rfl (j:=3) (Sc Se b.ep) rfl rfl rfl (Xa rfl) Y0 ?_;clear H;intro V H)|(refine Ye H.o rfl 3 _ _ rfl (j:=4) (Sc Se b.ed) rfl rfl rfl (Xa rfl) Y0 ?_;clear H;intro V H))
 refine(c24 q.sa q.la q.sc q.lc b.sf b.lo V c.o.sl c.o.ll (G6 d.o.sf H.o.bel) (G6 d.o.lo H.o.bel)).mono ?_;rintro e V1⟨⟨l,A,k,y,rfl,S,hk⟩,a⟩
 replace H:=U0 (H.o.call a (hk.imp λu h=>(⟨⟨h.1.1,h.1.2.mono H.o.bel.size⟩,h.2.1,h.2.2.mono H.o.bel.size⟩:(J8 u l b.sf/\Vy w.heap.size u l 9 b.sf.length)/\J8 u k b.lo/\Vy w.heap.size u k 9 b.lo.length)))
 clear a hk
 go_wp2_with(first|(refine D9 H.o.ca rfl 27 _ rfl (j:=7) [Sa q.fa b.fs.length q.fc] rfl rfl underlying27 rfl Y0 ?_)|(refine J7 H.o.ca rfl _ _ rfl rfl rfl Y0 ?_)|(refine XG H.o rfl 37 _ _ rfl (j:=5) [Sa l b.sf.length A,Sa k b.lo.length y] rfl rfl (Xa rfl) rfl Y0 ?_;clear H;intro V H))
 refine(c25 q.fa q.fc b.fs V c.o.fl (T.J5 d.o.fs H.o.bel)).mono ?_;rintro e V1⟨⟨I,x,rfl,hk⟩,a⟩
 replace H:=U0 (H.o.call a (AU hk H.o.bel.size))
 clear a hk
 go_wp2_with(first|(refine D9 H.o.ca rfl 30 _ rfl (j:=8) [Sc Se b.s.wd,Sa q.ta b.s.ts.length q.tc,Sa q.ra b.s.rs.length q.rc] rfl rfl underlying30 rfl Y0 ?_)|(refine J7 H.o.ca rfl _ _ rfl rfl rfl Y0 ?_)|(refine XG H.o rfl 40 _ _ rfl (j:=7) [Sa I b.fs.length x] rfl rfl (Xa rfl) rfl Y0 ?_;clear H;intro V H))
 refine(c26 q.ta q.ra q.tc q.rc b.s V c.o.st (d.o.st.below H.o.bel)).mono ?_;rintro e V1⟨⟨g,v,f,t,rfl,hk⟩,a⟩
 replace H:=U0 (H.o.call a (hk.imp λu h=>(⟨h.1,h.2.1.mono H.o.bel.size,h.2.2.1.mono H.o.bel.size,h.2.2.2⟩:xh u g (some ⟨f,0,none⟩) b.s/\StO w.heap.size u g f b.s)))
 clear a hk
 go_wp2_with(first|(refine J7 H.o.ca rfl _ _ rfl rfl rfl Y0 ?_)|(refine XG H.o rfl 43 _ _ rfl (j:=8) [Sc Se b.s.wd,Sa g b.s.ts.length v,Sa (some ⟨f,0,none⟩) b.s.rs.length t] rfl rfl (Xa rfl) rfl Y0 ?_;clear H;intro V H))
 refine(a4o q.ha q.hc b.hd V c.o.hl (Uh d.o.hd H.o.bel)).mono ?_;rintro e V1⟨⟨_,rfl,F,r,rfl,_,hk⟩,a⟩
 replace H:=U0 (H.o.call a (LU hk H.o.bel.size))
 clear a hk
 go_wp2_with(first|(refine J7 H.o.ca rfl _ _ rfl rfl rfl Y0 ?_)|(refine Ye H.o rfl 31 _ _ rfl (j:=11) (Sa F b.hd.length r) rfl rfl rfl (Xa rfl) Y0 ?_;clear H;intro V H))
 refine(iZ q.oa q.oc b.rt V c.o.rl (G6 d.o.rt H.o.bel)).mono ?_;rintro e V1⟨⟨_,rfl,E,p,rfl,R,hk⟩,a⟩
 replace H:=U0 (H.o.call a (LU hk H.o.bel.size))
 clear a hk
 go_wp2_with(first|(refine J7 H.o.ca rfl _ _ rfl rfl rfl Y0 ?_)|(refine Ye H.o rfl 22 _ _ rfl (j:=12) (Sa E b.rt.length p) rfl rfl rfl (Xa rfl) Y0 ?_;clear H;intro V H))
 refine(c29 q.na q.nc b.rn V c.o.nl (λi=>(c.o.ns i).2.2.1.1) (Jf d.o.rn H.o.bel)).mono ?_;rintro e V1⟨⟨_,rfl,D,o,rfl,hk⟩,a⟩
 replace H:=U0 (H.o.call a (a4e hk H.o.bel.size))
 clear a hk
 go_wp2_with(first|(refine J7 H.o.ca rfl _ _ rfl rfl rfl Y0 ?_)|(refine Ye H.o rfl 44 _ _ rfl (j:=13) (Sa (some ⟨D,0,none⟩) b.rn.length o) rfl rfl rfl (Xa rfl) Y0 ?_;clear H;intro V H))
 refine(c30 q.ja q.jc b.jb V c.o.jl (Om d.o.jb H.o.bel)).mono ?_;rintro e V1⟨⟨_,rfl,C,n,rfl,Q,hk⟩,a⟩
 replace H:=U0 (H.o.call a (AU hk H.o.bel.size))
 clear a hk
 go_wp2_with(first|(refine J7 H.o.ca rfl _ _ rfl rfl rfl Y0 ?_)|(refine Ye H.o rfl 45 _ _ rfl (j:=14) (Sa C b.jb.length n) rfl rfl rfl (Xa rfl) Y0 ?_;clear H;intro V H)|(refine wC H.o rfl 47 _ rfl [Sc Se b.wd,.bool b.up,Sc Se b.now,Sc Se b.ep,Sc Se b.ed,Sa l b.sf.length A,Sa k b.lo.length y,Sa I b.fs.length x,Sc Se b.s.wd,Sa g b.s.ts.length v,Sa (some ⟨f,0,none⟩) b.s.rs.length t,Sa F b.hd.length r,Sa E b.rt.length p,Sa (some ⟨D,0,none⟩) b.rn.length o,Sa C b.jb.length n] rfl rfl underlying47 rfl Y0 ?_)|(refine IC H.o rfl 47 _ _ rfl [Sc Se b.wd,.bool b.up,Sc Se b.now,Sc Se b.ep,Sc Se b.ed,Sa l b.sf.length A,Sa k b.lo.length y,Sa I b.fs.length x,Sc Se b.s.wd,Sa g b.s.ts.length v,Sa (some ⟨f,0,none⟩) b.s.rs.length t,Sa F b.hd.length r,Sa E b.rt.length p,Sa (some ⟨D,0,none⟩) b.rn.length o,Sa C b.jb.length n] rfl rfl rfl rfl Y0 ?_;clear H;intro z U hk a))
 exact P7 (l7 (P:=prog) (ty:=47) rfl _ z (w.heap.size+1) [Sc Se b.wd,.bool b.up,Sc Se b.now,Sc Se b.ep,Sc Se b.ed,Sa l b.sf.length A,Sa k b.lo.length y,Sa I b.fs.length x,Sc Se b.s.wd,Sa g b.s.ts.length v,Sa (some ⟨f,0,none⟩) b.s.rs.length t,Sa F b.hd.length r,Sa E b.rt.length p,Sa (some ⟨D,0,none⟩) b.rn.length o,Sa C b.jb.length n] _ rfl U underlying47 rfl Y0) rfl ⟨⟨⟨_,_,_,_,_,_,_,_,_,_,_,_,_,_,_,_,_,_⟩,rfl,by
  obtain⟨⟨⟨⟨⟨⟨⟨_,h1⟩,h2⟩,B⟩,O⟩,N⟩,J⟩,L⟩:=hk.now;exact⟨⟨h1.1.1,h1.2.1,h2.1,B.1,O.1,N.1,J.1,L.1⟩,⟨R,Q,S⟩,h1.1.2.ow,h1.2.2.ow,h2.2.ow,B.2.1.ow,a3G B.2.2.1 B.2.2.2,O.2.ow,N.2.ow,a3G J.2.1 J.2.2,L.2.ow⟩⟩,a⟩
theorem c4(b:Bs)(q:Ba)(l:Int)(w:World)(h0:0<=l)(h1:l<=1048576)(hs:lg b 9223372036854775807)(X:jh w b q):
 Calls prog 4 #[.agg (bsV b q).toArray,Sc Se l] w λe w'=>(∃r:Int,e=Sf (Sc Se r)/\(0<=r->lg b 1048576/\b.sf.length+b.lo.length<=1048576))/\Bw w w':=by
 have d:=U0 X;have c:=U0 hs
 go_in
 go_upto_region 1 with fail
 have u:=U0 (I4 w (bsV b q) 35);have P:=U0 (U6 (w:=w) (o:=Sg (bsV b q).toArray 35));generalize w.alloc (Sg (bsV b q).toArray 35)=V0 at*;have a5:=u.o.cell 5;have a6:=u.o.cell 6;simp only[gz]at a5 a6
 go_wp2_with fail
 refine(c13 q.sa q.la q.sc q.lc b.sf b.lo l V0 h0 h1 c.o.ss c.o.ls c.o.sl c.o.ll (G6 d.o.sf P) (G6 d.o.lo P)).mono ?_;rintro e V1⟨⟨p,rfl,hr⟩,a⟩;have R1:=U0 hr;have O:=U0 (E5 P a);have I:=U0 (u.o.below a u.o.lt);by_cases f:p<0
 ·go_wp2;go_ret;exact⟨⟨-1,rfl,λh=>O0⟩,O⟩
 have t:=R1.o O0;have F1:=U0 (t.1);have F2:=U0 (t.2.1);have C:=U0 (t.2.2.1);have e1:p<=1048576:=by have:=t.2.2.2;omega
 have n1:0<=p:=O0;have a7:=I.o.cell 7;simp only[gz]at a7
 go_wp2_with fail
 refine(c14 q.fa q.fc b.fs p V1 O0 O0 c.o.fz c.o.fl (T.J5 d.o.fs O)).mono ?_;rintro e V2⟨⟨n,rfl,hr⟩,a⟩;have R2:=U0 hr;have N:=U0 (E5 O a);have g:=U0 (I.o.below a I.o.lt);by_cases f:n<0
 ·go_wp2;go_ret;exact⟨⟨-1,rfl,λh=>O0⟩,N⟩
 have A:=R2.o O0;have F4:=U0 (A.1);have F5:=U0 (A.2.1);have e2:n<=1048576:=by have:=A.2.2;omega
 have n2:0<=n:=O0;have Z:=g.o.cell 8;have Y:=g.o.cell 9;have a10:=g.o.cell 10;simp only[gz]at Z Y a10
 go_wp2_with fail
 refine(c15 q.ta q.ra q.tc q.rc b.s n V2 O0 O0 c.o.st (d.o.st.below N)).mono ?_;rintro e U⟨⟨m,rfl,hr⟩,a⟩;have R3:=U0 hr;have W:=U0 (E5 N a);have H:=U0 (g.o.below a g.o.lt);by_cases f:m<0
 ·go_wp2;go_ret;exact⟨⟨-1,rfl,λh=>O0⟩,W⟩
 have R:=R3.o O0;have F6:=U0 (R.1.1);have e3:m<=1048576:=by have:=R.2;omega
 have n3:0<=m:=O0;have a11:=H.o.cell 11;simp only[gz]at a11
 go_wp2_with fail
 refine(c16 q.ha q.hc b.hd.length m U O0 O0 c.o.hl).mono ?_;rintro e B⟨⟨k,rfl,hr⟩,a⟩
 replace a:Bw U B:=by rw[a];exact O4 _ _
 have R4:=U0 hr;have L:=U0 (E5 W a);have F:=U0 (H.o.below a H.o.lt);by_cases f:k<0
 ·go_wp2;go_ret;exact⟨⟨-1,rfl,λh=>O0⟩,L⟩
 have Q:=R4.o O0;have F7:=U0 (Q.1);have e4:k<=1048576:=by have:=Q.2;omega
 have n4:0<=k:=O0;have a12:=F.o.cell 12;simp only[gz]at a12
 go_wp2_with fail
 refine(c17 q.oa q.oc b.rt k B O0 O0 c.o.rs c.o.rl (G6 d.o.rt L)).mono ?_;rintro e S⟨⟨j,rfl,hr⟩,a⟩
 replace a:Bw B S:=by rw[a];exact O4 _ _
 have R5:=U0 hr;have K:=U0 (E5 L a);have E:=U0 (F.o.below a F.o.lt);by_cases f:j<0
 ·go_wp2;go_ret;exact⟨⟨-1,rfl,λh=>O0⟩,K⟩
 have z:=R5.o O0;have F8:=U0 (z.1);have F9:=U0 (z.2.1);have e5:j<=1048576:=by have:=z.2.2;omega
 have n5:0<=j:=O0;have a13:=E.o.cell 13;simp only[gz]at a13
 go_wp2_with fail
 refine(c18 q.na q.nc b.rn j S O0 O0 c.o.ns c.o.nl (Jf d.o.rn K)).mono ?_;rintro e V6⟨⟨i,rfl,hr⟩,a⟩;have R6:=U0 hr;have J:=U0 (E5 K a);have D:=U0 (E.o.below a E.o.lt);by_cases f:i<0
 ·go_wp2;go_ret;exact⟨⟨-1,rfl,λh=>O0⟩,J⟩
 have y:=R6.o O0;have FA:=U0 (y.1);have FB:=U0 (y.2.1);have e6:i<=1048576:=by have:=y.2.2;omega
 have n6:0<=i:=O0;have a14:=D.o.cell 14;simp only[gz]at a14
 go_wp2_with fail
 refine(c19 q.ja q.jc b.jb i V6 O0 O0 c.o.js c.o.jl (Om d.o.jb J)).mono ?_;rintro e V7⟨⟨v,rfl,hr⟩,a⟩;have R7:=U0 hr;have V:=U0 (E5 J a);have C7:=U0 (D.o.below a D.o.lt);by_cases f:v<0
 ·go_wp2;go_ret;exact⟨⟨-1,rfl,λh=>O0⟩,V⟩
 have x:=R7.o O0;have FC:=U0 (x.1);have FD:=U0 (x.2.1);have e7:v<=1048576:=by have:=x.2.2;omega
 have n7:0<=v:=O0;go_wp2;go_ret;exact⟨⟨_,rfl,λh=>⟨⟨by have:=C.o;omega,F1.o,by have:=C.o;omega,F2.o,F4.o,F5.o,F6.o,F7.o,F8.o,F9.o,FA.o,FB.o,FC.o,FD.o⟩,C.o⟩⟩,V.o⟩
theorem c36(sa la a b:OA)(sc lc c d:Nat)(sf lo:LB)(w:World)(h1:sf.length<=1048576)(h2:lo.length<=1048576)(hs:J8 w sa sf)(hl:J8 w la lo)(n:J8 w a sf)(o:J8 w b lo):
 Calls prog 36 #[.agg #[Sa sa sf.length sc,Sa la lo.length lc],.agg #[Sa a sf.length c,Sa b lo.length d]] w λe w'=>e=Sf (.bool true)/\Bw w w':=by
 have v:=U0 hs;have u:=U0 hl;have t:=U0 n;have s:=U0 o
 go_in
 go_upto_region 1 with fail
 have k:=U0 (E8 (I4 w [vL sa sf.length sc,vL la lo.length lc] 37) (Sg #[vL a sf.length c,vL b lo.length d] 37));have i:Hid (Cl ((w.alloc (Sg #[vL sa sf.length sc,vL la lo.length lc] 37)).alloc (Sg #[vL a sf.length c,vL b lo.length d] 37)) (w.heap.size+1) 37 [vL a sf.length c,vL b lo.length d]):=by show Cl _ _ _ _;have h:=I4 (w.alloc (Sg #[vL sa sf.length sc,vL la lo.length lc] 37)) [vL a sf.length c,vL b lo.length d] 37;simpa using h
 have m:Hid (Bw w ((w.alloc (Sg #[vL sa sf.length sc,vL la lo.length lc] 37)).alloc (Sg #[vL a sf.length c,vL b lo.length d] 37))):=U6.alloc J4 _;generalize (w.alloc (Sg #[vL sa sf.length sc,vL la lo.length lc] 37)).alloc (Sg #[vL a sf.length c,vL b lo.length d] 37)=x at*;have r:=k.o.cell 0;have q:=i.o.cell 0;simp only[gz]at r q
 go_wp2_with fail
 refine(c40 sa a sc c sf x h1 (G6 v m) (G6 t m)).mono ?_;rintro e V1⟨rfl,f⟩;have l:=U0 (E5 m f);have j:=U0 (k.o.below f k.o.lt);have g:=U0 (i.o.below f i.o.lt);have a1:=j.o.cell 1;have p:=g.o.cell 1;simp only[gz]at a1 p
 go_wp2_with fail
 refine(c40 la b lc d lo V1 h2 (G6 u l) (G6 s l)).mono ?_;rintro e V2⟨rfl,f⟩;have y:=U0 (E5 l f);have C2:=U0 (j.o.below f j.o.lt);have D2:=U0 (g.o.below f g.o.lt);go_wp2;go_ret;exact⟨rfl,y⟩
theorem c87(x:Rn)(c a:OA)(f b:Nat)(w:World)(hl:x.ls.length<=1048576)(n:O9 w c x.ls)(m:O9 w a x.ls):
 Calls prog 87 #[.agg #[Sb x.nm,Sc Se x.md,Sb x.wt,Sa c x.ls.length f,Sc Se x.cd,Sb x.tx],.agg #[Sb x.nm,Sc Se x.md,Sb x.wt,Sa a x.ls.length b,Sc Se x.cd,Sb x.tx]] w λe w'=>e=Sf (.bool true)/\Bw w w':=by
 have B:=U0 n;have A:=U0 m
 go_in
 go_upto_region 1 with fail
 have i:=U0 (E8 (I4 w [vS x.nm,vI x.md,vS x.wt,vL c x.ls.length f,vI x.cd,vS x.tx] 119) (Sg #[vS x.nm,vI x.md,vS x.wt,vL a x.ls.length b,vI x.cd,vS x.tx] 119));have g:Hid (Cl ((w.alloc (Sg #[vS x.nm,vI x.md,vS x.wt,vL c x.ls.length f,vI x.cd,vS x.tx] 119)).alloc (Sg #[vS x.nm,vI x.md,vS x.wt,vL a x.ls.length b,vI x.cd,vS x.tx] 119)) (w.heap.size+1) 119 [vS x.nm,vI x.md,vS x.wt,vL a x.ls.length b,vI x.cd,vS x.tx]):=by show Cl _ _ _ _;have h:=I4 (w.alloc (Sg #[vS x.nm,vI x.md,vS x.wt,vL c x.ls.length f,vI x.cd,vS x.tx] 119)) [vS x.nm,vI x.md,vS x.wt,vL a x.ls.length b,vI x.cd,vS x.tx] 119;simpa using h
 have l:Hid (Bw w ((w.alloc (Sg #[vS x.nm,vI x.md,vS x.wt,vL c x.ls.length f,vI x.cd,vS x.tx] 119)).alloc (Sg #[vS x.nm,vI x.md,vS x.wt,vL a x.ls.length b,vI x.cd,vS x.tx] 119))):=U6.alloc J4 _;generalize (w.alloc (Sg #[vS x.nm,vI x.md,vS x.wt,vL c x.ls.length f,vI x.cd,vS x.tx] 119)).alloc (Sg #[vS x.nm,vI x.md,vS x.wt,vL a x.ls.length b,vI x.cd,vS x.tx] 119)=C at*;have z:=i.o.cell 0;have t:=g.o.cell 0;have a1:=i.o.cell 1;have s:=g.o.cell 1;have a2:=i.o.cell 2;have r:=g.o.cell 2;have y:=i.o.cell 3;have q:=g.o.cell 3;simp only[gz]at z t a1 s a2 r y q
 go_wp2_with fail
 refine(a5L c a f b x.ls C hl (Q7 B l) (Q7 A l)).mono ?_;rintro e V1⟨rfl,d⟩;have E:=U0 (E5 l d);have k:=U0 (i.o.below d i.o.lt);have j:=U0 (g.o.below d g.o.lt);have v:=k.o.cell 4;have p:=j.o.cell 4;have u:=k.o.cell 5;have o:=j.o.cell 5;simp only[gz]at v p u o
 go_wp2_with fail
 refine(c138 x.cd x.tx V1).mono ?_;rintro e V2⟨rfl,d⟩;have D:=U0 (E5 E d);have C2:=U0 (k.o.below d k.o.lt);have D2:=U0 (j.o.below d j.o.lt);go_wp2;go_ret;exact⟨rfl,D⟩
theorem c65(x y:St)(ta ra l rb:OA)(tc rc m rd:Nat)(w:World)(hx:x.ts.length<=1048576/\x.rs.length<=1048576/\∀i,(x.rs.getD i d_).gs.length<=1048576)(hy:y.ts.length<=1048576/\y.rs.length<=1048576/\∀i,(y.rs.getD i d_).gs.length<=1048576)(hat:xh w ta ra x)(hat':xh w l rb y):
 Calls prog 65 #[.agg #[Sc Se x.wd,Sa ta x.ts.length tc,Sa ra x.rs.length rc],.agg #[Sc Se y.wd,Sa l y.ts.length m,Sa rb y.rs.length rd]] w λe w'=>Rb (x=y) e/\Bw w w':=by
 obtain⟨x1,x2,Z⟩:=hx;obtain⟨y1,y2,W⟩:=hy;have X3:=U0 Z;have Y3:=U0 W;have HA:=U0 hat;have HA':=U0 hat';clear Z W hat hat'
 go_in
 go_upto_region 1 with fail
 have v:=U0 (E8 (I4 w [vI x.wd,vL ta x.ts.length tc,vL ra x.rs.length rc] 43) (Sg #[vI y.wd,vL l y.ts.length m,vL rb y.rs.length rd] 43));have u:Hid (Cl ((w.alloc (Sg #[vI x.wd,vL ta x.ts.length tc,vL ra x.rs.length rc] 43)).alloc (Sg #[vI y.wd,vL l y.ts.length m,vL rb y.rs.length rd] 43)) (w.heap.size+1) 43 [vI y.wd,vL l y.ts.length m,vL rb y.rs.length rd]):=by show Cl _ _ _ _;have h:=I4 (w.alloc (Sg #[vI x.wd,vL ta x.ts.length tc,vL ra x.rs.length rc] 43)) [vI y.wd,vL l y.ts.length m,vL rb y.rs.length rd] 43;simpa using h
 have C:Hid (Bw w ((w.alloc (Sg #[vI x.wd,vL ta x.ts.length tc,vL ra x.rs.length rc] 43)).alloc (Sg #[vI y.wd,vL l y.ts.length m,vL rb y.rs.length rd] 43))):=U6.alloc J4 _;generalize (w.alloc (Sg #[vI x.wd,vL ta x.ts.length tc,vL ra x.rs.length rc] 43)).alloc (Sg #[vI y.wd,vL l y.ts.length m,vL rb y.rs.length rd] 43)=V at*;have L:=v.o.cell 0;have A:=u.o.cell 0;have a1:=v.o.cell 1;have s:=u.o.cell 1;have a2:=v.o.cell 2;have n:=u.o.cell 2;simp only[gz]at L A a1 s a2 n;by_cases hw:x.wd=y.wd;rotate_left
 ·have g:Hid (¬x=y):=λh=>hw (by rw[h]);go_wp2;go_ret;exact⟨P5 g.o,C.o⟩
 by_cases d:x.ts.length=y.ts.length;rotate_left
 ·have g:Hid (¬x=y):=λh=>d (by rw[h]);have hn1:¬(x.ts.length:Int)=y.ts.length:=O0;go_wp2;go_ret;exact⟨P5 g.o,C.o⟩
 by_cases hm:x.rs.length=y.rs.length;rotate_left
 ·have g:Hid (¬x=y):=λh=>hm (by rw[h]);have hn1:¬(x.rs.length:Int)=y.rs.length:=O0;rw[<- d]at s;go_wp2;go_ret;exact⟨P5 g.o,C.o⟩
 have HW:=U0 hw;have N:=U0 d;have O:=U0 hm;rw[<- hw]at A;rw[<- d]at s;rw[<- hm]at n;obtain⟨b,off,hc⟩:=Aa HA.o.1;obtain⟨b',off',q⟩:=Aa HA'.o.1;have S:=U0 hc;have R:=U0 q;have t:=U0 v.o.lt;have B:=U0 u.o.lt;clear hc q v u d hm hw;go_wp2;go_loopw[5] (λi wr=>∃(k:Nat),k<=x.ts.length/\i=Sc Se k/\Hid (∀j,j<k->x.ts.getD j ByteArray.empty=y.ts.getD j ByteArray.empty)/\Below V.heap.size V wr) (λi _=>x.ts.length-(RowKit.intOf i).toNat);exact⟨0,Y4 _,rfl,λj h=>absurd h (U8 _),O4 _ _⟩;obtain⟨k,hk2,rfl,hd,a⟩:=hrel
 replace L:=(a.cell (by exact t.o)).trans L
 replace a1:=(a.cell (by exact t.o)).trans a1
 replace a2:=(a.cell (by exact t.o)).trans a2
 replace A:=(a.cell (by exact B.o)).trans A
 replace s:=(a.cell (by exact B.o)).trans s
 replace n:=(a.cell (by exact B.o)).trans n
 have z:=U0 (E5 C.o a);by_cases f:k<x.ts.length
 ·obtain⟨ha,F,p⟩:=Ud S.o f;rcases R.o with D|⟨J,E,o⟩
  ·have d:=N.o;rw[D]at d;rw[d]at f;exact absurd f (U8 _)
  subst ha;subst J;have g0:=(z.o.cell (by exact F)).trans (p k f);have g0':=(z.o.cell (by exact E)).trans (o k (by have:=N.o;omega));clear p o;by_cases c:x.ts.getD k ByteArray.empty=y.ts.getD k ByteArray.empty
  ·have Q:Hid (∀j,j<k+1->x.ts.getD j ByteArray.empty=y.ts.getD j ByteArray.empty):=λj hj=>by
    rcases Z7 j k with h|h
    ·exact hd.o j h
    obtain rfl:j=k:=O0;exact c
   rw[<- c]at g0';generalize x.ts.getD k ByteArray.empty=X at*;clear c hd
   go_wp2_with fail
   go_region
   all_goals go_wp2
   all_goals go_roundw
   all_goals first
    | exact⟨k+1,O0,by go_num,Q,a.drew⟩
    | (exact V9)
  have g:Hid (¬x=y):=λh=>c (by rw[h]);generalize x.ts.getD k ByteArray.empty=X at*;generalize y.ts.getD k ByteArray.empty=Y at*;have q':=S_.2 (Yc c)
  go_wp2_with fail
  go_region
  all_goals go_wp2
  all_goals go_ret
  all_goals exact⟨P5 g.o,z.o.drew⟩
 obtain rfl:k=x.ts.length:=O0;have HX:=U0 (Ir N.o hd.o);obtain⟨b,off,hc⟩:=Hf HA.o.2;obtain⟨b',off',q⟩:=Hf HA'.o.2;have S:=U0 hc;have R:=U0 q;have U:=U0 a;clear hc q hd a;go_wp2;go_loopw[6] (λi wr'=>∃(k:Nat),k<=x.rs.length/\i=Sc Se k/\Hid (∀j,j<k->x.rs.getD j d_=y.rs.getD j d_)/\Below wr.heap.size wr wr') (λi _=>x.rs.length-(RowKit.intOf i).toNat);exact⟨0,Y4 _,rfl,λj h=>absurd h (U8 _),O4 _ _⟩;obtain⟨k,hk2,rfl,hd,a⟩:=hrel
 replace a2:=(a.cell (by have:=U.o.size;have:=t.o;exact P9 t.o U.o.size)).trans a2
 replace n:=(a.cell (by exact P9 B.o U.o.size)).trans n
 have r:=U0 (E5 z.o a);by_cases f:k<x.rs.length;rotate_left
 ·obtain rfl:k=x.rs.length:=O0;have HR:Hid (x=y):=by
   have h1:=HW.o;have h2:=HX.o;have h3:=Ir O.o hd.o;obtain⟨_,_,_⟩:=x;obtain⟨_,_,_⟩:=y;dsimp only at h1 h2 h3;subst h1 h2 h3;rfl
  go_wp2;go_ret;exact⟨H_ HR.o,r.o⟩
 obtain⟨ha,F,p⟩:=Ud S.o f;rcases R.o with D|⟨J,E,o⟩
 ·have d:=O.o;rw[D]at d;rw[d]at f;exact absurd f (U8 _)
 subst ha;subst J;obtain⟨ai,ci,g0,g1,g2,g3⟩:=(p k f).below F r.o;obtain⟨bi,di,p0,p1,p2,p3⟩:=(o k (by have:=O.o;omega)).below E r.o;have G3:=U0 g3;have P3:=U0 p3;have hx3:=X3.o k;have hy3:=Y3.o k;clear p o g3 p3;by_cases c:x.rs.getD k d_=y.rs.getD k d_
 ·have Q:Hid (∀j,j<k+1->x.rs.getD j d_=y.rs.getD j d_):=λj hj=>by
   rcases Z7 j k with h|h
   ·exact hd.o j h
   obtain rfl:j=k:=O0;exact c
  have P:=U0 c;generalize x.rs.getD k d_=X at*;generalize y.rs.getD k d_=Y at*;clear c hd
  go_wp2_with fail
  go_region_with(go_at_call 110;refine(a1G X Y ai bi ci di _ hx3 hy3 (y9 G3.o (O4 _ _).drew) (y9 P3.o (O4 _ _).drew)).mono ?_;rintro e w1⟨⟨K,rfl,H⟩,I⟩;obtain rfl:K=true:=H.2 P.o)
  all_goals go_wp2
  all_goals go_roundw
  all_goals first
   | exact⟨k+1,O0,by go_num,Q,(a.drew).trans (I.mono a.size)⟩
   | (exact V9)
 have g:Hid (¬x=y):=λh=>c (by rw[h]);have P:=U0 c;generalize x.rs.getD k d_=X at*;generalize y.rs.getD k d_=Y at*;clear c hd
 go_wp2_with fail
 go_region_with(go_at_call 110;refine(a1G X Y ai bi ci di _ hx3 hy3 (y9 G3.o (O4 _ _).drew) (y9 P3.o (O4 _ _).drew)).mono ?_;rintro e w1⟨⟨K,rfl,H⟩,I⟩;obtain rfl:K=false:=Uf.2 (λh=>P.o (H.1 h)))
 all_goals go_wp2
 all_goals go_ret
 all_goals exact⟨P5 g.o,(r.o.drew).trans (I.mono r.o.size)⟩
def WT(s:BY):Prop:=s=⟨#[]⟩\/Y5 s.data.toList=true
def zh(r:Rn):Prop:=Ig r.ls/\(((r.md=0\/r.md=1)/\(r.cd=0/\r.tx=⟨#[]⟩)/\WT r.wt)\/(r.md=2/\vr r.cd r.tx.data.toList=true/\r.wt=⟨#[]⟩))
theorem Bl{s:BY}(h:¬s=⟨#[]⟩):(s.toList==([]:List UInt8))=false:=S_.2 (λe=>h (by
 apply jg;rw[ByteArray.toList_eq]at e;exact Yl.1 e))
theorem a5D(x:Rn)(c:OA)(b:Nat)(w:World):
 Calls prog 243 #[.agg #[Sb x.nm,Sc Se x.md,Sb x.wt,Sa c x.ls.length b,Sc Se x.cd,Sb x.tx]] w λe w'=>Rb (x.md=1/\x.wt=⟨#[]⟩) e/\Bw w w':=by
 go_in
 go_upto_region 1 with fail
 have f:=U0 (I4 w [vS x.nm,vI x.md,vS x.wt,vL c x.ls.length b,vI x.cd,vS x.tx] 119);have d:=U0 (U6 (w:=w) (o:=Sg #[vS x.nm,vI x.md,vS x.wt,vL c x.ls.length b,vI x.cd,vS x.tx] 119));generalize w.alloc (Sg #[vS x.nm,vI x.md,vS x.wt,vL c x.ls.length b,vI x.cd,vS x.tx] 119)=V at*;have a1:=f.o.cell 1;have a2:=f.o.cell 2;simp only[gz]at a1 a2;by_cases h1:x.md=1;rotate_left
 ·have a:Hid (¬(x.md=1/\x.wt=⟨#[]⟩)):=λh=>h1 h.1;go_wp2;go_ret;exact⟨P5 a,d⟩
 rw[h1]at a1;by_cases h2:x.wt=⟨#[]⟩
 ·have g:Hid (x.md=1/\x.wt=⟨#[]⟩):=⟨h1,h2⟩;rw[h2]at a2;go_wp2;go_ret;exact⟨H_ g,d⟩
 have a:Hid (¬(x.md=1/\x.wt=⟨#[]⟩)):=λh=>h2 h.2;have z:=Bl h2;go_wp2;go_ret;exact⟨by first|exact P5 a.o|(rw[z];exact P5 a)|(simp only[z];exact P5 a.o),d⟩
theorem a4O(x:Rn)(c:OA)(f:Nat)(w:World)(hs:x.le 1048576)(y:O9 w c x.ls):
 Calls prog 172 #[.agg #[Sb x.nm,Sc Se x.md,Sb x.wt,Sa c x.ls.length f,Sc Se x.cd,Sb x.tx]] w λe w'=>Rb (zh x) e/\Bw w w':=by
 have E:=U0 y;have g:=U0 hs
 go_in
 go_upto_region 1 with fail
 have n:=U0 (I4 w [vS x.nm,vI x.md,vS x.wt,vL c x.ls.length f,vI x.cd,vS x.tx] 119);have t:=U0 (U6 (w:=w) (o:=Sg #[vS x.nm,vI x.md,vS x.wt,vL c x.ls.length f,vI x.cd,vS x.tx] 119));generalize w.alloc (Sg #[vS x.nm,vI x.md,vS x.wt,vL c x.ls.length f,vI x.cd,vS x.tx] 119)=V at*;have B:=n.o.cell 3;simp only[gz]at B
 go_wp2_with fail
 refine(c233 c f x.ls V g.o.2.2.1.1 g.o.2.2.1.2 (Q7 E t)).mono ?_;rintro e w1⟨⟨A,rfl,i⟩,r⟩;have d:=U0 (n.o.below r n.o.lt);have b:=U0 (E5 t r);have a1:=d.o.cell 1;have a2:=d.o.cell 2;have j:=d.o.cell 4;have s:=d.o.cell 5;simp only[gz]at a1 a2 j s
 cases A with
 | false=>
  have a:Hid (¬zh x):=λh=>by have:=i.2 h.1;cases this
  go_wp2;go_ret;exact⟨P5 a.o,b.o⟩
 | true=>
 have m:=U0 (i.1 rfl);clear i;by_cases hm:x.md=0\/x.md=1
 ·by_cases hc:x.cd=0;rotate_left
  ·have a:Hid (¬zh x):=λh=>by
    rcases h.2 with⟨_,k,_⟩|⟨k,_⟩
    ·exact hc k.1
    rw[k]at hm;omega
   rcases hm with hm|hm
   all_goals
    rw[hm]at a1;go_wp2;go_ret;exact⟨P5 a,b⟩
  by_cases ht:x.tx=⟨#[]⟩;rotate_left
  ·have a:Hid (¬zh x):=λh=>by
    rcases h.2 with⟨_,k,_⟩|⟨k,_⟩
    ·exact ht k.2
    rw[k]at hm;omega
   have z:=Bl ht;have z1:=S_.1 z;rw[hc]at j;rcases hm with hm|hm
   all_goals
    rw[hm]at a1;go_wp2;go_ret;exact⟨P5 a,b⟩
  rw[hc]at j;rw[ht]at s;by_cases hw:x.wt=⟨#[]⟩
  ·have l:Hid (zh x):=⟨m,.inl ⟨hm,⟨hc,ht⟩,.inl hw⟩⟩;rw[hw]at a2;rcases hm with hm|hm
   all_goals
    rw[hm]at a1;go_wp2;go_ret;exact⟨H_ l,b⟩
  have z:=Bl hw;have D:Hid (Y5 x.wt.data.toList=true↔zh x):=⟨λh=>⟨m,.inl ⟨hm,⟨hc,ht⟩,.inr h⟩⟩,λh=>by
   rcases h.2 with⟨_,_,k⟩|⟨k,_⟩
   ·exact k.resolve_left hw
   rw[k]at hm;omega⟩
  rcases hm with hm|hm
  all_goals
   rw[hm]at a1
   go_wp2_with fail
   refine(c80 x.wt w1 (by have:=g.o.2.1;omega)).mono ?_;rintro e u⟨rfl,v⟩;obtain rfl:=v.symm;go_wp2;go_ret;exact⟨⟨_,rfl,D⟩,b⟩
 by_cases h2:x.md=2;rotate_left
 ·have a:Hid (¬zh x):=λh=>by
   rcases h.2 with⟨k,_⟩|⟨k,_⟩
   ·exact hm k
   exact h2 k
  have m0:¬x.md=0:=λh=>hm (.inl h);have m1:¬x.md=1:=λh=>hm (.inr h);go_wp2;go_ret;exact⟨P5 a,b⟩
 rw[h2]at a1;have C:=U0 (c234 x.cd x.tx w1 (by have:=g.o.2.2.2;omega))
 go_wp2_with fail
 refine C.o.mono ?_;rintro e u⟨rfl,q⟩;have F:=U0 (d.o.below q d.o.lt);have p:=U0 (E5 b q);have a2:=F.o.cell 2;simp only[gz]at a2;by_cases hv:vr x.cd x.tx.data.toList=true;rotate_left
 ·have a:Hid (¬zh x):=λh=>by
   rcases h.2 with⟨k,_⟩|⟨_,k,_⟩
   ·exact hm k
   exact hv k
  rw[Uf.2 hv];go_wp2;go_ret;exact⟨P5 a,p⟩
 rw[hv];by_cases hw:x.wt=⟨#[]⟩
 ·have l:Hid (zh x):=⟨m,.inr ⟨h2,hv,hw⟩⟩;rw[hw]at a2;go_wp2;go_ret;exact⟨H_ l,p⟩
 have z:=Bl hw;have a:Hid (¬zh x):=λh=>by
  rcases h.2 with⟨k,_⟩|⟨_,_,k⟩
  ·exact hm k
  exact hw k
 go_wp2;go_ret;exact⟨by first|exact P5 a.o|(rw[z];exact P5 a)|(simp only[z];exact P5 a.o),p⟩
