import Derived.Test.YtdgneicbmalnpaaGreatDoorbL
import Derived.Test.YtdgneicbmalnpaaGreatDooruJ
set_option linter.all false
set_option maxHeartbeats 0
set_option maxRecDepth 99999
open Go.Value renaming slice->Sa,string->Sb,int->Sc,pointer->Sd
open Go.IntKind renaming i64->Se
open Go.Obj renaming cells->Sg
namespace Go.Proofs.YtdgneicbmalnpaaGreatDoor
open Proofs.Tryz Go.RowKit Go.Maps Go.Sort Go.Shelf
variable{u w:World}{A B c j m:Nat}{vs vs0:List Value}{a:OA}{is:List Rn}{b:Bs}{q:Ba}
theorem mkm(d:Nat){T:TypeId}{p:String}{af:Array Edge}{a:Act}{w:World}{K:Act->World->Prop}{Q:Exit->Act->World->Prop}{ops:Array Oper}{E:Prop}(h:∀z g,Hid (z.ownsMap prog 9 h_ g 0 (mapD []))->Bw w z->w.heap.size<=g->K (a.put (some d) (.map (some g))) z):if Region.wanted ⟨some d,.makeMap T none,T,p,af,none⟩ (yielded ops a.tmps)=true then Oper.wp prog ⟨some d,.makeMap T none,T,p,af,none⟩ a w K Q else E:=EU rfl rfl (h _ w.heap.size (World.ownsMap_made w prog 9 h_) U6 (Y7 _))
open Go.RowKit
theorem Me.mv{A':Nat}{cd:Int}{m:MS}(h:Me w A cd m vs)(hk:Fq A w u)(hA:A'<=A):Me u A' cd m vs:=by
 obtain⟨fa,fc,ta,tc,ra,rc,e,h1,h2⟩:=h;exact⟨fa,fc,ta,tc,ra,rc,e,VK h1 hk hA,h2.mv hk hA⟩
theorem a1Y(h:Az Td L9 Rn.ls xw 119 6 213 4 A is vs0 (Sa a is.length c) is.length vs w):Wi w a is:=by
 by_cases h0:is=[]
 ·exact .inl h0
 have F:=dm.2 h0;obtain⟨g,c',e,J,_⟩:=Df h.row (j:=0*6+3) (Xj (E:=Td) (m:=6) (λ_=>rfl) F U5);injection e with e _ _;subst e;refine .inr ⟨g,0,rfl,J,λi u=>?_⟩;obtain⟨a1,z,e1,o⟩:=h.gl i u;refine⟨a1,z,λq v hv=>?_,?_⟩
 ·have b:q<6:=(ah.1 hv).1;obtain⟨_,_,s,_,k⟩:=Df h.row (j:=i*6+q) (x:=v) (by rw[Xj (E:=Td) (m:=6) (λ_=>rfl) u b,e1];exact hv);injection s with s _ _;cases s;rw[Y8];exact k
 by_cases hl:Rn.ls (is.getD i L9)=[]
 ·exact .inl hl
 have H:=dm.2 hl;have y:∀j,j<(Rn.ls (is.getD i L9)).length->∀q,q<4->∃g c,Value.slice a1 (Rn.ls (is.getD i L9)).length z=.slice (some ⟨g,0,none⟩) (Rn.ls (is.getD i L9)).length c/\g<w.heap.size/\w.cell? ⟨g,j*4+q,none⟩=(xw ((Rn.ls (is.getD i L9)).getD j K_))[q]?:=λj n q b=>by
  have t:q<(xw ((Rn.ls (is.getD i L9)).getD j K_)).length:=b;obtain⟨g,c,D,C,B⟩:=Df o (Gf (d:=K_) (f:=xw) (m:=4) (λ_=>rfl) _ j n q _ (V8 t));exact⟨g,c,D,C,by rw[B,V8 t]⟩
 obtain⟨g1,c2,r,I,_⟩:=y 0 H 0 U5;injection r with r _ _;subst r;refine .inr ⟨g1,0,rfl,I,λj n=>?_⟩;have l:∀q,q<4->w.cell? ⟨g1,j*4+q,none⟩=(xw ((Rn.ls (is.getD i L9)).getD j K_))[q]?:=λq b=>by
  obtain⟨_,_,p,_,k⟩:=y j n q b;injection p with p _ _;cases p;exact k
 rw[Y8];exact⟨l 0 U5,l 1 U5,l 2 U5,l 3 U5⟩
theorem rY{is:List Jb}(h:w.ownsRow A 124 3 (Sa a is.length c) is.length (is.flatMap Kq)):Qj w a is:=by
 by_cases h0:is=[]
 ·exact .inl h0
 have n:=dm.2 h0;have l:∀j,j<is.length->∀q v,(Kq (is.getD j Ea))[q]?=some v->∃g p,Sa a is.length c=Sa (some ⟨g,0,none⟩) is.length p/\g<w.heap.size/\w.cell? ⟨g,j*3+q,none⟩=some v:=λj b q v hv=>Df h (Gf (d:=Ea) (f:=Kq) (m:=3) (λ_=>rfl) _ j b q _ hv);obtain⟨g1,c2,i,o,_⟩:=l 0 n 0 _ rfl;injection i with i _ _;subst i;refine .inr ⟨g1,0,rfl,o,λj b q v hv=>?_⟩;obtain⟨_,_,e,_,k⟩:=l j b q v hv;injection e with e _ _;cases e;rw[Y8];exact k
theorem ZB{ss:LB}(h:w.ownsRow A 9 1 (Sa a ss.length c) ss.length (ss.map Sb)):J8 w a ss:=by
 obtain⟨_,_,e,k⟩:=Iz h;cases e;exact k
theorem dY{base:Nat}{ss:List Int}(h:w.ownsRow base 3 1 (Sa a ss.length c) ss.length (ss.map (Sc Se))):Zf w a ss:=by
 by_cases h0:ss=[]
 ·exact .inl h0
 have d:=dm.2 h0;obtain⟨g,c',e,f,_⟩:=Df h (j:=0) (x:=Sc Se (ss[0])) (by simp[d]);injection e with e;subst e;refine .inr ⟨g,0,rfl,f,λi b=>?_⟩;obtain⟨g',c'',e,_,h2⟩:=Df h (j:=i) (x:=Sc Se (ss[i])) (by simp[b]);injection e with e;injection e with e;injection e with e;subst e;rw[Y8,h2];simp[List.getD,b]
theorem WC.at(h:WC A u b q):jh u b q:=⟨ZB h.sf,ZB h.lo,h.fs.1,Wv h.st,dY h.hd,ZB h.rt,by
 obtain⟨vs,r⟩:=h.rn;exact a1Y r,rY h.jb⟩
theorem WU{α β:Type}{E:α×Value->List Value}{d:α}{inn:α->List β}{f:β->List Value}{T TI mi:Nat}{is:List α}{v:Value}(h:Az E d inn f T m TI mi A is vs0 v is.length vs w)(y:∀p,(E p).length=m)(s:j<m)(hv:∀p,(E p)[j]?=some p.2)(hB:w.heap.size<=B)(r:∀i,(inn (is.getD i d)).length<=1048576):NR A B w T m j TI mi v is.length vs (is.map λx=>(inn x).length):=by
 have gl:∀i,i<is.length->(is.map λx=>(inn x).length).getD i 0=(inn (is.getD i d)).length:=λi b=>by simp[List.getD,b]
 refine⟨?_,λi b=>?_,λi b=>?_⟩
 ·rcases h.row.2 with⟨e,h0⟩|⟨g,cap,cur,e,u,k,q,_,t,ht⟩
  ·exact⟨none,0,by rw[e,h0],.inl h0⟩
  refine⟨_,cap,e,.inr ⟨g,cur.toList,rfl,u,Nat.lt_of_lt_of_le (Array.getElem?_eq_some_iff.1 k).1 hB,by unfold Cl;rw[k],?_,λi b=>?_⟩⟩
  ·have z:cur.toList.length=cap*m:=by rw[Uy,t]
   rw[z];exact Ro _ q
  have n:=P9 (show i*m+j<(i+1)*m by rw[ak];omega) (Ro _ b);have l:=Xj (E:=E) (d:=d) (is:=is) (vs:=vs) y b s;rw[hv,<- ht,zC n]at l;exact l
 ·obtain⟨a,c,e,o⟩:=h.gl i b;rw[gl i b,e];exact own_rw o hB
 rw[gl i b];exact r i
theorem oW{fs:List T.F2}(h:T.Wn A w a fs)(hB:w.heap.size<=B):Rw A B w 169 2 (Sa a fs.length c) fs.length:=by
 rcases h.2 with rfl|⟨g,rfl,b,⟨hl,hc,_⟩,cur,ht⟩
 ·exact⟨a,c,rfl,.inl rfl⟩
 by_cases h0:fs.length=0
 ·exact⟨_,c,rfl,.inl h0⟩
 have C:Cl w g 169 cur.toList:=by unfold Cl;rw[ht]
 refine⟨_,c,rfl,.inr ⟨g,cur.toList,rfl,b,P9 hl hB,C,?_⟩⟩;obtain⟨v,hv⟩:=hc (fs.length*2-1) (by omega);rw[C.cell]at hv;have:=(ah.1 hv).1;omega
def lsR(b:Bs):List Nat:=b.s.rs.map λx=>x.gs.length
def lsN(b:Bs):List Nat:=b.rn.map λx=>(Rn.ls x).length
theorem a2g(h:WC A w b q)(hl:lg b 1048576):∃vr vn,BW A w.heap.size w b q vr (lsR b) vn (lsN b)/\aQ b q vr vn:=by
 obtain⟨vn,a⟩:=h.rn;obtain⟨vr,hr⟩:=h.st.2;have c:Az NJ d_ R3.gs jQ 179 3 235 3 A b.s.rs vr (vL q.ra b.s.rs.length q.rc) b.s.rs.length vr w:=⟨hr.len,hr.row,hr.gl,λ_ _=>rfl,hr.apart⟩;exact⟨vr,vn,⟨own_rw h.sf A8,own_rw h.lo A8,oW h.fs A8,own_rw h.st.1 A8,WU c (λ_=>rfl) (by decide) (λ_=>rfl) A8 (λi=>(hl.st.2.2 i).2.1),own_rw h.hd A8,own_rw h.rt A8,WU a (λ_=>rfl) (by decide) (λ_=>rfl) A8 (λi=>(hl.ns i).2.2.1.1),own_rw h.jb A8⟩,⟨h.n1,h.n2,h.n3,h.n4,h.n5,h.n6,hr.apart,a.apart⟩⟩
def lenV:Value->Nat
 | Sa _ n _=>n
 | _=>0
theorem UR{n cap:Nat}{t ti:TypeId}(h:OwN A B w a t n m j ti c)(hm:j<m):∃vs ls,NR A B w t m j ti c (Sa a n cap) n vs ls:=by
 obtain⟨g,rfl,hA,hB,⟨xs,hC,q⟩,d⟩:=h;refine⟨(List.range n).map λi=>(xs[i*m+j]?).getD undef,(List.range n).map λi=>lenV ((xs[i*m+j]?).getD undef),?_⟩;have l:∀i,i<n->((List.range n).map λi=>(xs[i*m+j]?).getD undef).getD i undef=(xs[i*m+j]?).getD undef:=λi d=>by simp[List.getD,d]
 have gl:∀i,i<n->((List.range n).map λi=>lenV ((xs[i*m+j]?).getD undef)).getD i 0=lenV ((xs[i*m+j]?).getD undef):=λi d=>by simp[List.getD,d]
 refine⟨⟨_,cap,rfl,.inr ⟨g,xs,rfl,hA,hB,hC,q,λi b=>?_⟩⟩,λi b=>?_,λi b=>?_⟩
 ·have hp:=P9 (show i*m+j<(i+1)*m by rw[ak];omega) (Ro _ b);rw[l i b,V8 (show i*m+j<xs.length by omega)];rfl
 ·obtain⟨r,p,o,e,k,f⟩:=d i b;rw[hC.cell]at e;rw[l i b,gl i b,e];exact(f.rw_ (c:=o)).mono (by omega) A8
 obtain⟨r,p,o,e,k,f⟩:=d i b;rw[hC.cell]at e;rw[gl i b,e];exact k
theorem a6B(h:BsO A B w b q):∃vr lr vn ln,BW A B w b q vr lr vn ln:=by
 obtain⟨vr,lr,hr⟩:=UR (cap:=q.rc) h.rs (by decide);obtain⟨vn,ln,e⟩:=UR (cap:=q.nc) h.rn (by decide);have d:∀{a:OA}{n c:Nat}{t:TypeId},Ow A B w a t n->Rw A B w t 1 (vL a n c) n:=λk=>Ow.rw_ (by rw[Pm];exact k);exact⟨vr,lr,vn,ln,⟨d h.sf,d h.lo,h.fs.rw_,d h.ts,hr,d h.hd,d h.rt,e,h.jb.rw_⟩⟩
theorem BW.md{w':World}{vr vn:List Value}{lr ln:List Nat}(h:BW A B w b q vr lr vn ln)(k:Bw w w'):BW A B w' b q vr lr vn ln:=
 have m:=Md.of (A:=0) (B:=0) (S:=[]) k
 ⟨h.sf.md m,h.lo.md m,h.fs.md m,h.ts.md m,h.rs.md m Oo,h.hd.md m,h.rt.md m,h.rn.md m Oo,h.jb.md m⟩
theorem oZ(is:List Rn):Ku is []=[]:=by
 unfold Ku;simp
theorem wP(h:Az Td L9 Rn.ls xw 119 6 213 4 A is vs0 (Sa a is.length c) is.length vs w){i:Nat}(d:i<is.length):∃g,a=some ⟨g,0,none⟩/\g<w.heap.size/\∀q v,(Td (is.getD i L9,vs.getD i undef))[q]?=some v->w.cell? ⟨g,i*6+q,none⟩=some v:=by
 obtain⟨g,c',e,l,_⟩:=Df h.row (j:=i*6+3) (Xj (E:=Td) (m:=6) (λ_=>rfl) d U5);injection e with e _ _;subst e;refine⟨g,rfl,l,λq v hv=>?_⟩;have f:q<6:=(ah.1 hv).1;obtain⟨_,_,b,_,k⟩:=Df h.row (j:=i*6+q) (x:=v) (by rw[Xj (E:=Td) (m:=6) (λ_=>rfl) d f];exact hv);injection b with b _ _;cases b;exact k
theorem xP{is:List Jb}(h:w.ownsRow A 124 3 (Sa a is.length c) is.length (is.flatMap Kq)){i:Nat}(j:i<is.length):∃g,a=some ⟨g,0,none⟩/\g<w.heap.size/\∀q v,(Kq (is.getD i Ea))[q]?=some v->w.cell? ⟨g,i*3+q,none⟩=some v:=by
 obtain⟨g,c',e,l,_⟩:=Df h (Gf (d:=Ea) (f:=Kq) (m:=3) (λ_=>rfl) _ i j 0 _ rfl);injection e with e _ _;subst e;refine⟨g,rfl,l,λq v hv=>?_⟩;have hq:q<3:=(ah.1 hv).1;obtain⟨_,_,b,_,k⟩:=Df h (Gf (d:=Ea) (f:=Kq) (m:=3) (λ_=>rfl) _ i j q v hv);injection b with b _ _;cases b;exact k
theorem c76(b:Bs)(q:Ba)(w:World)(hl:lg b 1048576)(hv:G.Vk w)(hat:jh w b q)(hrn:∀i j,i<j->j<b.rn.length->Bj (b.rn.getD i L9).nm (b.rn.getD j L9).nm=true)(hjb:∀i j,i<j->j<b.jb.length->Bj (b.jb.getD i Ea).nm (b.jb.getD j Ea).nm=true)(hz1:∀i,i<b.rn.length->(b.rn.getD i L9).nm.size<=maxLen)(hz2:∀i,i<b.jb.length->(b.jb.getD i Ea).nm.size<=maxLen)(hl1:b.rn.length<=1000)(hl2:b.jb.length<=1000)(hP0:∀u,Bw w u->Calls prog 127 #[.agg #[Sa q.fa b.fs.length q.fc]] u λe u'=>(∃pa p pc,e=.returned (Sa pa p pc))/\Bw u u'):
 Calls prog 76 #[.agg (bsV b q).toArray] w λe w'=>∃D m1 m2 c pv vs Rs,e=.returned (Sd (some ⟨D,0,none⟩))/\Rs.length=b.rn.length/\kD w.heap.size b w D m1 m2 c pv vs Rs b.jb.length w':=by
 have HA:=U0 hat;have HV:=U0 hv;clear hat hv;have A:=@run_makeMap prog
 go_in
 go_upto_region 1 with fail
 have C0:=U0 (I4 w (bsV b q) 47);have t:=U0 (U6 (w:=w) (o:=Sg (bsV b q).toArray 47));generalize w.alloc (Sg (bsV b q).toArray 47)=V at*
 go_cut[3] from 8 (λv wx=>∃D m1 m2 c pv vs,v=Sd (some ⟨D,0,none⟩)/\Hid (kD w.heap.size b w D m1 m2 c pv vs [] 0 wx))
 rotate_left
 ·clear HA HV A C0 t hP0;obtain⟨D,m1,m2,c,pv,vs,rfl,HX⟩:=hcut;have HRN:=U0 hrn;have HJB:=U0 hjb;have HZ1:=U0 hz1;have HZ2:=U0 hz2;clear hrn hjb hz1 hz2;have kb:=HX.o.cl.cell 13;go_wp2;go_loopw[23] (λi wr=>∃Rs:List Nat,Rs.length<=b.rn.length/\i=Sc Se Rs.length/\Hid (kD w.heap.size b w D m1 m2 c pv vs Rs 0 wr)) (λi _=>b.rn.length-(RowKit.intOf i).toNat);exact⟨[],Y4 _,rfl,HX⟩;obtain⟨Rs,hk,rfl,U⟩:=hrel;by_cases X:Rs.length<b.rn.length;rotate_left
  ·have HE:Hid (Rs.length=b.rn.length):=U0 O0;have kc:=U.o.cl.cell 14;go_wp2;go_loopw[40] (λi wr=>∃j:Nat,j<=b.jb.length/\i=Sc Se j/\Hid (kD w.heap.size b w D m1 m2 c pv vs Rs j wr)) (λi _=>b.jb.length-(RowKit.intOf i).toNat);exact⟨0,Y4 _,rfl,U⟩;obtain⟨j,hj,rfl,HJ⟩:=hrel;by_cases hlj:j<b.jb.length;rotate_left
   ·obtain rfl:j=b.jb.length:=O0;go_wp2;go_ret;exact⟨D,m1,m2,c,pv,vs,Rs,rfl,HE.o,HJ.o⟩
   obtain⟨g,hg,hgl,Y⟩:=xP HJ.o.rw.jb hlj;rw[hg];have H:=U0 Y;have E:Hid (∀u1 u2,kD w.heap.size b w D m1 m2 c pv vs Rs j u1->u1.grownBy u2 (some m2)->u2.ownsMap prog 9 h_ m2 (j+1) ((mapD ((b.jb.take j).map gJ)).put (kS (b.jb.getD j Ea).nm) (.held (gJ (b.jb.getD j Ea)).2))->kD w.heap.size b w D m1 m2 c pv vs Rs (j+1) u2):=λu1 u2 h2 h3 h4=>h2.job hlj (λi hi=>HJB.o i _ hi hlj) h3 h4;have Z:=U0 (HZ2.o _ hlj);have hnl:j<maxLen:=by unfold maxLen;omega
   generalize b.jb.getD j Ea=x at H E Z;clear Y
   go_upto_region 10 with(first|(refine Oa rfl (N9 124 _ rfl (B:=g) (j:=j*3) (cs:=[Sb x.nm,Sc Se x.wk,Sc Se x.un]) rfl H.o underlying124 rfl Y0) ?_)|(refine N7 rfl 124 _ _ rfl (j:=0) rfl rfl (I4 wr [Sb ⟨#[]⟩,Sc Se 0,Sc Se 0] 124) A8 (X5 rfl) Y0 ?_;intro z CZ W))
   have L:Cl z wr.heap.size 124 [Sb x.nm,Sc Se x.wk,Sc Se x.un]:=CZ;have bz:Bw wr z:=tC U6 (W.below (Y7 _));have szz:wr.heap.size<z.heap.size:=L.lt;have n:=U0 (HJ.o.below bz HJ.o.bw.size);have f:=U0 L;clear CZ W L;have I:Hid (∀u,Bw z u->u.cell? ⟨D,18,none⟩=some (.map (some m2))/\u.cell? ⟨wr.heap.size,0,none⟩=some (Sb x.nm)/\u.cell? ⟨wr.heap.size,1,none⟩=some (Sc Se x.wk)/\u.cell? ⟨wr.heap.size,2,none⟩=some (Sc Se x.un)):=λu d=>⟨(n.o.cl.below d n.o.cl.lt).cell 18,(f.o.below d f.o.lt).cell 0,(f.o.below d f.o.lt).cell 1,(f.o.below d f.o.lt).cell 2⟩;have a:=(O4 z.heap.size z).drew;refine mG I a Y0 λhH=>?_
   iterate 7 refine sq ?_
   refine rq 7 λK m=>?_;have J:=U0 (n.o.below a (by have:=n.o.bw.size;omega));refine Np (l:=(b.jb.take j).map gJ) (k:=x.nm) (vv:=(gJ x).2) rfl 133 (.tmp 47) (.tmp 49) (.tmp 50) rfl rfl rfl rfl J.o.o2 underlying133 hnl Z.o rfl ?_;intro u2 ho C;have DN:=U0 (E.o _ u2 J.o C ho);obtain⟨es,cc,A⟩:=Ic J.o.o2;have F:=U0 ((f.o.below a f.o.lt).nc C (λr e=>by cases e;exact⟨_,A,rfl⟩));refine m _ _ ⟨DN.o.cl.cell 18,F.o.cell 0,F.o.cell 1,F.o.cell 2⟩ λhH=>?_;refine wdn ?_;clear A F C ho;go_wp2;go_roundw
   ·exact⟨_,_,_,_,_,_,_,_,_,_,_,_,_,⟨j+1,by omega,by go_num,DN⟩,rfl⟩
   exact V9
  obtain⟨g,hg,hgl,Y⟩:=wP U.o.gg X;rw[hg];obtain⟨va,vc,hvs,_⟩:=U.o.gg.gl _ X;have H:=U0 Y;have E:Hid (∀R u1 u2,Cl u1 R 119 (Td (b.rn.getD Rs.length L9,vs.getD Rs.length undef))->kD w.heap.size b w D m1 m2 c pv vs Rs 0 u1->u1.grownBy u2 (some m1)->u2.ownsMap prog 9 h_ m1 (Rs.length+1) ((mapD (Ku b.rn Rs)).put (kS (b.rn.getD Rs.length L9).nm) (.held (Sd (some ⟨R,0,none⟩))))->kD w.heap.size b w D m1 m2 c pv vs (Rs++[R]) 0 u2):=λR u1 u2 h1 h2 h3 h4=>h2.run X (λi hi=>HRN.o i _ hi X) h1 h3 h4;have Z:=U0 (HZ1.o _ X);have hnl:Rs.length<maxLen:=by unfold maxLen;omega
  rw[hvs]at H E;generalize b.rn.getD Rs.length L9=x at H E Z;clear Y hvs;generalize (Rn.ls x).length=vn at H E
  go_upto_region 5 with(first|(refine Oa rfl (N9 119 _ rfl (B:=g) (j:=Rs.length*6) (cs:=[Sb x.nm,Sc Se x.md,Sb x.wt,Sa va vn vc,Sc Se x.cd,Sb x.tx]) rfl H.o underlying119 rfl Y0) ?_)|(refine N7 rfl 119 _ _ rfl (j:=0) rfl rfl (I4 wr [Sb ⟨#[]⟩,Sc Se 0,Sb ⟨#[]⟩,Sa none 0 0,Sc Se 0,Sb ⟨#[]⟩] 119) A8 (X5 rfl) Y0 ?_;intro z CZ W))
  have L:Cl z wr.heap.size 119 [Sb x.nm,Sc Se x.md,Sb x.wt,Sa va vn vc,Sc Se x.cd,Sb x.tx]:=CZ;have bz:Bw wr z:=tC U6 (W.below (Y7 _));have szz:wr.heap.size<z.heap.size:=L.lt;have n:=U0 (U.o.below bz U.o.bw.size);have f:=U0 L;clear CZ W L;have I:Hid (∀u,Bw z u->u.cell? ⟨D,17,none⟩=some (.map (some m1))/\u.cell? ⟨wr.heap.size,0,none⟩=some (Sb x.nm)):=λu d=>⟨(n.o.cl.below d n.o.cl.lt).cell 17,(f.o.below d f.o.lt).cell 0⟩;have a:=(O4 z.heap.size z).drew;refine mG I a Y0 λhH=>?_
  iterate 6 refine sq ?_
  refine rq 6 λK m=>?_;have J:=U0 (n.o.below a (by have:=n.o.bw.size;omega));refine Np (l:=Ku b.rn Rs) (k:=x.nm) (vv:=Sd (some ⟨wr.heap.size,0,none⟩)) rfl 132 (.tmp 30) (.tmp 32) (.tmp 5) rfl rfl rfl rfl J.o.o1 underlying132 hnl Z.o rfl ?_;intro u2 ho C;have DN:=U0 (E.o wr.heap.size _ u2 (f.o.below a f.o.lt) J.o C ho);obtain⟨es,cc,A⟩:=Ic J.o.o1;have F:=U0 ((f.o.below a f.o.lt).nc C (λr e=>by cases e;exact⟨_,A,rfl⟩));refine m _ _ ⟨DN.o.cl.cell 17,F.o.cell 0⟩ λhH=>?_;refine wdn ?_;clear A F C ho;go_wp2;go_roundw;exact⟨_,_,_,_,_,_,_,_,_,_,_,_,⟨Rs++[wr.heap.size],by simp;omega,by simp,DN⟩,rfl⟩;exact V9
 have hPL:∀u,Bw V u->Calls prog 127 #[.agg #[Sa q.fa b.fs.length q.fc]] u λe u'=>(∃pa p pc,e=.returned (Sa pa p pc))/\Bw u u':=λu d=>hP0 u (E5 t.o d);have I:Hid (∀u,Bw V u->Cl u w.heap.size 47 (bsV b q)):=λu d=>C0.o.below d C0.o.lt;have a:=(O4 V.heap.size V).drew;refine mG I a Y0 λhH=>?_;generalize V.drew=y at*;refine tq 0 hH ?_ (hv:=λu d=>N9 47 _ rfl (B:=w.heap.size) (j:=0) (cs:=bsV b q) rfl (λq v e=>by rw[Y8];exact(d.cell q).trans e) underlying47 rfl Y0)
 try simp only[qq]
 refine y_ 2 ?_;refine tq 3 hH ?_ (hv:=λu d=>N9 40 _ rfl (B:=w.heap.size) (j:=7) (cs:=[Sa q.fa b.fs.length q.fc]) rfl (λi v e=>(d.cell _).trans (QK (l:=bsV b q) (j:=7) rfl e)) underlying40 rfl Y0)
 try simp only[qq]
 iterate 4 (all_goals((first|refine an3 (λK m=>?_) (λK m=>?_) (λK m=>?_)|refine an2 (λK m=>?_) (λK m=>?_)|refine an1 (λK m=>?_));all_goals(
  (first
   | (refine mkm 13 ?_;intro z O S s S1';have S1:=U0 (X7 (E5 t.o a).size S1');(try have NE:Hid (O≠N):=λe=>by have:=Q.o.lt;omega);clear S1')
   | (refine mkm 14 ?_;intro z N Q s S2';have S2:=U0 (X7 (E5 t.o a).size S2');(try have NE:Hid (O≠N):=λe=>by have:=S.o.lt;omega);clear S2')
   | (go_simp;first|(refine(a4Y b q _ hl (HA.o.below (E5 t.o a))).mono ?_;rintro e z⟨⟨c,rfl,hr⟩,s⟩;have RB:=U0 (hr.mv (A':=w.heap.size) ⟨Y7 _,λ_ _ _ _ _=>rfl⟩ (E5 t.o a).size);clear hr)|(refine(hPL _ a).mono ?_;rintro e z⟨⟨pa,p,pc,rfl⟩,s⟩)))
  (try replace RB:=U0 (RB.o.mv (.below s) (Y7 _)))
  (try replace S:=U0 (U9 S.o s S.o.lt))
  (try replace Q:=U0 (U9 Q.o s Q.o.lt))
  replace a:=E5 a s
  clear s;refine m.o _ _ (I.o _ a) λhH=>?_;clear m K
  try simp only[qq])))
 all_goals
  refine sq ?_;refine rq 8 λK m=>?_;go_simp;have CD:=U0 (I4 z (bsV b c++Sa pa p pc::XV O N) 139);have P:Bw z (z.alloc (Sg (bsV b c++Sa pa p pc::XV O N).toArray 139)):=U6;obtain⟨vs,gg⟩:=RB.o.rn;have HX:Hid (kD w.heap.size b w z.heap.size O N c (Sa pa p pc) vs [] 0 (z.alloc (Sg (bsV b c++Sa pa p pc::XV O N).toArray 139))):=⟨CD.o,RB.o.mv (.below P) (Y7 _),gg.mv (.below P) (Y7 _) U5 U5,Y4 _,λi h=>absurd h (U8 i),by rw[oZ];exact U9 S.o P S.o.lt,U9 Q.o P Q.o.lt,E5 t.o (E5 a P),(E5 t.o a).size,S1.o,S2.o,NE.o⟩;clear gg;refine G9 m (I.o _ (E5 a P)) λhH=>?_;clear m K;refine sq ?_;refine wdn ?_
  go_wp2_with fail
  go_meet
  exact⟨_,_,_,_,_,_,rfl,HX⟩
theorem c8(c:Int)(b:Bs)(q p:Ba)(w:World)(hl:lg b 1048576)(n:jh w b q)(o:jh w b p):
 Calls prog 8 #[.agg #[Sc Se c,Sc Se b.wd,.bool b.up,Sc Se b.now,Sc Se b.ep,Sc Se b.ed,Sa q.sa b.sf.length q.sc,Sa q.la b.lo.length q.lc,Sa q.fa b.fs.length q.fc,Sc Se b.s.wd,Sa q.ta b.s.ts.length q.tc,Sa q.ra b.s.rs.length q.rc,Sa q.ha b.hd.length q.hc,Sa q.oa b.rt.length q.oc,Sa q.na b.rn.length q.nc,Sa q.ja b.jb.length q.jc,Sa none 0 0,Sa none 0 0],.agg #[Sc Se c,Sc Se b.wd,.bool b.up,Sc Se b.now,Sc Se b.ep,Sc Se b.ed,Sa p.sa b.sf.length p.sc,Sa p.la b.lo.length p.lc,Sa p.fa b.fs.length p.fc,Sc Se b.s.wd,Sa p.ta b.s.ts.length p.tc,Sa p.ra b.s.rs.length p.rc,Sa p.ha b.hd.length p.hc,Sa p.oa b.rt.length p.oc,Sa p.na b.rn.length p.nc,Sa p.ja b.jb.length p.jc,Sa none 0 0,Sa none 0 0]] w λe w'=>e=.returned (.bool true)/\Bw w w':=by
 have X:=U0 n;have Y:=U0 o;clear n o
 go_in
 go_upto_region 1 with fail
 have f:=U0 (E8 (I4 w [Sc Se c,Sc Se b.wd,.bool b.up,Sc Se b.now,Sc Se b.ep,Sc Se b.ed,Sa q.sa b.sf.length q.sc,Sa q.la b.lo.length q.lc,Sa q.fa b.fs.length q.fc,Sc Se b.s.wd,Sa q.ta b.s.ts.length q.tc,Sa q.ra b.s.rs.length q.rc,Sa q.ha b.hd.length q.hc,Sa q.oa b.rt.length q.oc,Sa q.na b.rn.length q.nc,Sa q.ja b.jb.length q.jc,Sa none 0 0,Sa none 0 0] 51) (Sg #[Sc Se c,Sc Se b.wd,.bool b.up,Sc Se b.now,Sc Se b.ep,Sc Se b.ed,Sa p.sa b.sf.length p.sc,Sa p.la b.lo.length p.lc,Sa p.fa b.fs.length p.fc,Sc Se b.s.wd,Sa p.ta b.s.ts.length p.tc,Sa p.ra b.s.rs.length p.rc,Sa p.ha b.hd.length p.hc,Sa p.oa b.rt.length p.oc,Sa p.na b.rn.length p.nc,Sa p.ja b.jb.length p.jc,Sa none 0 0,Sa none 0 0] 51));have d:Hid (Cl ((w.alloc (Sg #[Sc Se c,Sc Se b.wd,.bool b.up,Sc Se b.now,Sc Se b.ep,Sc Se b.ed,Sa q.sa b.sf.length q.sc,Sa q.la b.lo.length q.lc,Sa q.fa b.fs.length q.fc,Sc Se b.s.wd,Sa q.ta b.s.ts.length q.tc,Sa q.ra b.s.rs.length q.rc,Sa q.ha b.hd.length q.hc,Sa q.oa b.rt.length q.oc,Sa q.na b.rn.length q.nc,Sa q.ja b.jb.length q.jc,Sa none 0 0,Sa none 0 0] 51)).alloc (Sg #[Sc Se c,Sc Se b.wd,.bool b.up,Sc Se b.now,Sc Se b.ep,Sc Se b.ed,Sa p.sa b.sf.length p.sc,Sa p.la b.lo.length p.lc,Sa p.fa b.fs.length p.fc,Sc Se b.s.wd,Sa p.ta b.s.ts.length p.tc,Sa p.ra b.s.rs.length p.rc,Sa p.ha b.hd.length p.hc,Sa p.oa b.rt.length p.oc,Sa p.na b.rn.length p.nc,Sa p.ja b.jb.length p.jc,Sa none 0 0,Sa none 0 0] 51)) (w.heap.size+1) 51 [Sc Se c,Sc Se b.wd,.bool b.up,Sc Se b.now,Sc Se b.ep,Sc Se b.ed,Sa p.sa b.sf.length p.sc,Sa p.la b.lo.length p.lc,Sa p.fa b.fs.length p.fc,Sc Se b.s.wd,Sa p.ta b.s.ts.length p.tc,Sa p.ra b.s.rs.length p.rc,Sa p.ha b.hd.length p.hc,Sa p.oa b.rt.length p.oc,Sa p.na b.rn.length p.nc,Sa p.ja b.jb.length p.jc,Sa none 0 0,Sa none 0 0]):=by show Cl _ _ _ _;have h:=I4 (w.alloc (Sg #[Sc Se c,Sc Se b.wd,.bool b.up,Sc Se b.now,Sc Se b.ep,Sc Se b.ed,Sa q.sa b.sf.length q.sc,Sa q.la b.lo.length q.lc,Sa q.fa b.fs.length q.fc,Sc Se b.s.wd,Sa q.ta b.s.ts.length q.tc,Sa q.ra b.s.rs.length q.rc,Sa q.ha b.hd.length q.hc,Sa q.oa b.rt.length q.oc,Sa q.na b.rn.length q.nc,Sa q.ja b.jb.length q.jc,Sa none 0 0,Sa none 0 0] 51)) [Sc Se c,Sc Se b.wd,.bool b.up,Sc Se b.now,Sc Se b.ep,Sc Se b.ed,Sa p.sa b.sf.length p.sc,Sa p.la b.lo.length p.lc,Sa p.fa b.fs.length p.fc,Sc Se b.s.wd,Sa p.ta b.s.ts.length p.tc,Sa p.ra b.s.rs.length p.rc,Sa p.ha b.hd.length p.hc,Sa p.oa b.rt.length p.oc,Sa p.na b.rn.length p.nc,Sa p.ja b.jb.length p.jc,Sa none 0 0,Sa none 0 0] 51;simpa using h
 have m:Hid (Bw w ((w.alloc (Sg #[Sc Se c,Sc Se b.wd,.bool b.up,Sc Se b.now,Sc Se b.ep,Sc Se b.ed,Sa q.sa b.sf.length q.sc,Sa q.la b.lo.length q.lc,Sa q.fa b.fs.length q.fc,Sc Se b.s.wd,Sa q.ta b.s.ts.length q.tc,Sa q.ra b.s.rs.length q.rc,Sa q.ha b.hd.length q.hc,Sa q.oa b.rt.length q.oc,Sa q.na b.rn.length q.nc,Sa q.ja b.jb.length q.jc,Sa none 0 0,Sa none 0 0] 51)).alloc (Sg #[Sc Se c,Sc Se b.wd,.bool b.up,Sc Se b.now,Sc Se b.ep,Sc Se b.ed,Sa p.sa b.sf.length p.sc,Sa p.la b.lo.length p.lc,Sa p.fa b.fs.length p.fc,Sc Se b.s.wd,Sa p.ta b.s.ts.length p.tc,Sa p.ra b.s.rs.length p.rc,Sa p.ha b.hd.length p.hc,Sa p.oa b.rt.length p.oc,Sa p.na b.rn.length p.nc,Sa p.ja b.jb.length p.jc,Sa none 0 0,Sa none 0 0] 51))):=U6.alloc J4 _;generalize (w.alloc (Sg #[Sc Se c,Sc Se b.wd,.bool b.up,Sc Se b.now,Sc Se b.ep,Sc Se b.ed,Sa q.sa b.sf.length q.sc,Sa q.la b.lo.length q.lc,Sa q.fa b.fs.length q.fc,Sc Se b.s.wd,Sa q.ta b.s.ts.length q.tc,Sa q.ra b.s.rs.length q.rc,Sa q.ha b.hd.length q.hc,Sa q.oa b.rt.length q.oc,Sa q.na b.rn.length q.nc,Sa q.ja b.jb.length q.jc,Sa none 0 0,Sa none 0 0] 51)).alloc (Sg #[Sc Se c,Sc Se b.wd,.bool b.up,Sc Se b.now,Sc Se b.ep,Sc Se b.ed,Sa p.sa b.sf.length p.sc,Sa p.la b.lo.length p.lc,Sa p.fa b.fs.length p.fc,Sc Se b.s.wd,Sa p.ta b.s.ts.length p.tc,Sa p.ra b.s.rs.length p.rc,Sa p.ha b.hd.length p.hc,Sa p.oa b.rt.length p.oc,Sa p.na b.rn.length p.nc,Sa p.ja b.jb.length p.jc,Sa none 0 0,Sa none 0 0] 51)=v at*
 go_wp2_with(first|(refine D9 f.o rfl 47 _ rfl (j:=1) (bsV b q) rfl rfl underlying47 rfl Y0 ?_)|(refine D9 d.o rfl 47 _ rfl (j:=1) (bsV b p) rfl rfl underlying47 rfl Y0 ?_)|(refine J7 f.o rfl _ _ rfl rfl rfl Y0 ?_)|(refine J7 d.o rfl _ _ rfl rfl rfl Y0 ?_))
 refine(c9 b q p v hl (X.o.below m.o) (Y.o.below m.o)).mono ?_;rintro e V1⟨rfl,a⟩;have t:=U0 (E5 m.o a);have l:=U0 (f.o.below a f.o.lt);have i:=U0 (d.o.below a d.o.lt);clear a f d m
 go_wp2_with(first|(refine J7 l.o rfl _ _ rfl rfl rfl Y0 ?_)|(refine J7 i.o rfl _ _ rfl rfl rfl Y0 ?_))
 refine(a6m none none 0 0 V1).mono ?_;rintro e u⟨rfl,a⟩;have r:=U0 (E5 t.o a);have k:=U0 (l.o.below a l.o.lt);have g:=U0 (i.o.below a i.o.lt);clear a l i t
 go_wp2_with(first|(refine J7 k.o rfl _ _ rfl rfl rfl Y0 ?_)|(refine J7 g.o rfl _ _ rfl rfl rfl Y0 ?_))
 refine(a5F none none 0 0 u).mono ?_;rintro e V3⟨rfl,a⟩;have z:=U0 (E5 r.o a);have y:=U0 (k.o.below a k.o.lt);have x:=U0 (g.o.below a g.o.lt);clear a k g r
 go_wp2_with(first|(refine J7 y.o rfl _ _ rfl rfl rfl Y0 ?_)|(refine J7 x.o rfl _ _ rfl rfl rfl Y0 ?_))
 go_ret;exact⟨rfl,z.o⟩
theorem c12(c:Int)(b:Bs)(q:Ba)(vr:List Value)(lr:List Nat)(vn:List Value)(ln:List Nat)(w:World)(hl:lg b 1048576)(h0:0<=bX b lr ln)(ho:∀u,Bw w u->BM u b q vr lr vn ln):
 Calls prog 12 #[.agg #[Sc Se c,Sc Se b.wd,.bool b.up,Sc Se b.now,Sc Se b.ep,Sc Se b.ed,Sa q.sa b.sf.length q.sc,Sa q.la b.lo.length q.lc,Sa q.fa b.fs.length q.fc,Sc Se b.s.wd,Sa q.ta b.s.ts.length q.tc,Sa q.ra b.s.rs.length q.rc,Sa q.ha b.hd.length q.hc,Sa q.oa b.rt.length q.oc,Sa q.na b.rn.length q.nc,Sa q.ja b.jb.length q.jc,Sa none 0 0,Sa none 0 0],Sc Se 1] w λe w'=>e=.returned (Sc Se (bX b lr ln))/\Bw w w':=by
 have k:=U0 ho;clear ho
 go_in
 go_upto_region 1 with fail
 have a:=U0 (I4 w [Sc Se c,Sc Se b.wd,.bool b.up,Sc Se b.now,Sc Se b.ep,Sc Se b.ed,Sa q.sa b.sf.length q.sc,Sa q.la b.lo.length q.lc,Sa q.fa b.fs.length q.fc,Sc Se b.s.wd,Sa q.ta b.s.ts.length q.tc,Sa q.ra b.s.rs.length q.rc,Sa q.ha b.hd.length q.hc,Sa q.oa b.rt.length q.oc,Sa q.na b.rn.length q.nc,Sa q.ja b.jb.length q.jc,Sa none 0 0,Sa none 0 0] 51);have f:=U0 (U6 (w:=w) (o:=Sg #[Sc Se c,Sc Se b.wd,.bool b.up,Sc Se b.now,Sc Se b.ep,Sc Se b.ed,Sa q.sa b.sf.length q.sc,Sa q.la b.lo.length q.lc,Sa q.fa b.fs.length q.fc,Sc Se b.s.wd,Sa q.ta b.s.ts.length q.tc,Sa q.ra b.s.rs.length q.rc,Sa q.ha b.hd.length q.hc,Sa q.oa b.rt.length q.oc,Sa q.na b.rn.length q.nc,Sa q.ja b.jb.length q.jc,Sa none 0 0,Sa none 0 0] 51));generalize w.alloc (Sg #[Sc Se c,Sc Se b.wd,.bool b.up,Sc Se b.now,Sc Se b.ep,Sc Se b.ed,Sa q.sa b.sf.length q.sc,Sa q.la b.lo.length q.lc,Sa q.fa b.fs.length q.fc,Sc Se b.s.wd,Sa q.ta b.s.ts.length q.tc,Sa q.ra b.s.rs.length q.rc,Sa q.ha b.hd.length q.hc,Sa q.oa b.rt.length q.oc,Sa q.na b.rn.length q.nc,Sa q.ja b.jb.length q.jc,Sa none 0 0,Sa none 0 0] 51)=i at*
 go_wp2_with(refine D9 a.o rfl 47 _ rfl (j:=1) (bsV b q) rfl rfl underlying47 rfl Y0 ?_)
 refine(h10 b q vr lr vn ln i hl (k.o _ f.o)).mono ?_;rintro e V1⟨rfl,d⟩;have m:=U0 (E5 f.o d);have g:=U0 (a.o.below d a.o.lt);clear d a f;generalize hK:bX b lr ln=K at*;have l:=U0 hK;clear hK;have zk:¬K<0:=O0
 go_wp2_with(refine J7 g.o rfl _ _ rfl rfl rfl Y0 ?_)
 refine(a6v none 0 K V1).mono ?_;rintro e h⟨rfl,hw⟩;obtain rfl:=hw.symm
 go_wp2_with(refine J7 g.o rfl _ _ rfl rfl rfl Y0 ?_)
 refine(a5h none 0 K V1).mono ?_;rintro e h⟨rfl,hw⟩;obtain rfl:=hw.symm;go_wp2;go_ret;exact⟨by rw[l.o];rfl,m.o⟩
theorem c11(A B:Nat)(c:Int)(b:Bs)(q:Ba)(vr:List Value)(lr:List Nat)(vn:List Value)(ln:List Nat)(w:World)(k:A<=B)(hB:B<=w.heap.size)(hl:lg b 1048576)(ho:BW A B w b q vr lr vn ln):
 Calls prog 11 #[.agg #[Sc Se c,Sc Se b.wd,.bool b.up,Sc Se b.now,Sc Se b.ep,Sc Se b.ed,Sa q.sa b.sf.length q.sc,Sa q.la b.lo.length q.lc,Sa q.fa b.fs.length q.fc,Sc Se b.s.wd,Sa q.ta b.s.ts.length q.tc,Sa q.ra b.s.rs.length q.rc,Sa q.ha b.hd.length q.hc,Sa q.oa b.rt.length q.oc,Sa q.na b.rn.length q.nc,Sa q.ja b.jb.length q.jc,Sa none 0 0,Sa none 0 0],Sc Se 1] w λe w'=>(e=.returned (Sc Se (bX b lr ln))/\0<=bX b lr ln/\(aQ b q vr vn->BM w' b q vr lr vn ln))/\Md A B [9,169,179,235,3,119,213,124] w w':=by
 have n:=U0 ho;clear ho
 go_in
 go_upto_region 1 with fail
 have a:=U0 (I4 w [Sc Se c,Sc Se b.wd,.bool b.up,Sc Se b.now,Sc Se b.ep,Sc Se b.ed,Sa q.sa b.sf.length q.sc,Sa q.la b.lo.length q.lc,Sa q.fa b.fs.length q.fc,Sc Se b.s.wd,Sa q.ta b.s.ts.length q.tc,Sa q.ra b.s.rs.length q.rc,Sa q.ha b.hd.length q.hc,Sa q.oa b.rt.length q.oc,Sa q.na b.rn.length q.nc,Sa q.ja b.jb.length q.jc,Sa none 0 0,Sa none 0 0] 51);have d:=U0 (U6 (w:=w) (o:=Sg #[Sc Se c,Sc Se b.wd,.bool b.up,Sc Se b.now,Sc Se b.ep,Sc Se b.ed,Sa q.sa b.sf.length q.sc,Sa q.la b.lo.length q.lc,Sa q.fa b.fs.length q.fc,Sc Se b.s.wd,Sa q.ta b.s.ts.length q.tc,Sa q.ra b.s.rs.length q.rc,Sa q.ha b.hd.length q.hc,Sa q.oa b.rt.length q.oc,Sa q.na b.rn.length q.nc,Sa q.ja b.jb.length q.jc,Sa none 0 0,Sa none 0 0] 51));have i:=a.o.lt;have hw0:Hid (B<=w.heap.size):=hB;generalize w.alloc (Sg #[Sc Se c,Sc Se b.wd,.bool b.up,Sc Se b.now,Sc Se b.ep,Sc Se b.ed,Sa q.sa b.sf.length q.sc,Sa q.la b.lo.length q.lc,Sa q.fa b.fs.length q.fc,Sc Se b.s.wd,Sa q.ta b.s.ts.length q.tc,Sa q.ra b.s.rs.length q.rc,Sa q.ha b.hd.length q.hc,Sa q.oa b.rt.length q.oc,Sa q.na b.rn.length q.nc,Sa q.ja b.jb.length q.jc,Sa none 0 0,Sa none 0 0] 51)=l at*
 go_wp2_with(refine D9 a.o rfl 47 _ rfl (j:=1) (bsV b q) rfl rfl underlying47 rfl Y0 ?_)
 refine(m9 A B b q vr lr vn ln l k (by have:=d.o.size;omega) hl (n.o.md d.o)).mono ?_;rintro e V1⟨⟨rfl,h0,hm⟩,hd⟩;have m:=U0 ((Md.of d.o).trans hd);have r:=U0 h0;have p:=U0 hm;have g:Hid (Cl V1 w.heap.size 51 [Sc Se c,Sc Se b.wd,.bool b.up,Sc Se b.now,Sc Se b.ep,Sc Se b.ed,Sa q.sa b.sf.length q.sc,Sa q.la b.lo.length q.lc,Sa q.fa b.fs.length q.fc,Sc Se b.s.wd,Sa q.ta b.s.ts.length q.tc,Sa q.ra b.s.rs.length q.rc,Sa q.ha b.hd.length q.hc,Sa q.oa b.rt.length q.oc,Sa q.na b.rn.length q.nc,Sa q.ja b.jb.length q.jc,Sa none 0 0,Sa none 0 0]):=(hd.block w.heap.size i (by omega)).trans a.o;clear hm hd a d h0;generalize hK:bX b lr ln=K at*;have f:=U0 hK;clear hK
 go_wp2_with(refine J7 g.o rfl _ _ rfl rfl rfl Y0 ?_)
 refine(a5G none 0 K V1).mono ?_;rintro e h⟨rfl,hw⟩;obtain rfl:=hw.symm
 go_wp2_with(refine J7 g.o rfl _ _ rfl rfl rfl Y0 ?_)
 refine(a5d none 0 K V1).mono ?_;rintro e h⟨rfl,hw⟩;obtain rfl:=hw.symm;go_wp2;go_ret;exact⟨⟨by rw[f.o];rfl,by rw[f.o];exact r.o,p.o⟩,m.o⟩
