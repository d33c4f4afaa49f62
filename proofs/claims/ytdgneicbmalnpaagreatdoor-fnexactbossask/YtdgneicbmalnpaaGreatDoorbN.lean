import Derived.Test.YtdgneicbmalnpaaGreatDoorbL
set_option linter.all false
set_option maxHeartbeats 0
set_option maxRecDepth 99999
open Go.Value renaming slice->Sa,string->Sb,int->Sc,pointer->Sd
open Go.IntKind renaming i64->Se
open Go.Obj renaming cells->Sg
namespace Go.Proofs.YtdgneicbmalnpaaGreatDoor
open Proofs.Tryz Go.RowKit Go.Maps Go.Sort Go.Shelf
variable{fn:Func}{d u w:World}{R:Ending->World->Prop}{D n:Nat}{b:Bs}{X vs:List Value}
theorem NH{P:Program}{f:FuncId}{c:Code}{args:Array Value}(hf:P.funcs[f]?=some fn)(a:fn.body=some c)(h:c.wp P (bodyPostM Fence.wide 0 P fn R) { tmps:=args++Array.replicate (fn.ntmps-args.size) undef,defers:=[] } w):Calls P f args w R:=callsIn_wide.1 (callsIn_of_wp_marks hf a trivial (wpIn_wide.2 h))
theorem lvm{F:Fence}{t b:Array Value}(he:results fn t=results fn b):∀(a:List Deferred)(u:FrameMode)(w:World),LeavesInM F n prog fn t R a u w->LeavesInM F n prog fn b R a u w
 | [],u,w,h=>by
  cases u with
  | returning=>
   obtain⟨v,h1,h2⟩:=h;exact⟨v,he▸h1,h2⟩
  | run=>exact h.elim
  | panicking c=>exact h
 | d::a,u,w,⟨h1,h2⟩=>⟨h1,h2.imp (λ⟨r,w',e,hr,h⟩=>⟨r,w',e,hr,lvm he a u w' h⟩) (λ⟨g,fv,cap,f,args,e1,j,i,h⟩=>⟨g,fv,cap,f,args,e1,j,i,h.mono (λe u' w' k=>by
  cases e with
  | returned v=>exact lvm he a _ _ k
  | panicked c=>exact lvm he a _ _ k
  | outgrown=>exact k)⟩)⟩
theorem hQd{d:Nat}{v:Value}{c:List PanicEntry}{a:Act}(hd:d≠2)(h:bodyPostM Fence.wide 0 prog f78 R (.panic c) (a.put (some d) v) w):bodyPostM Fence.wide 0 prog f78 R (.panic c) a w:=lvm (by
 have e:f78.results=#[.cell 2 51]:=rfl;unfold results;rw[e];simp[Act.put,Array.getElem?_setIfInBounds_ne hd]) a.defers _ _ h
theorem PS(is:List Rn)(Rs:List Nat)(h:Rs.length=is.length)(x:Fin (Ku is Rs).length):((Ku is Rs)[x.1]'(x.2)).2=Sd (some ⟨Rs.getD x.1 0,0,none⟩)/\x.1<is.length:=by
 have hx:x.1<is.length/\x.1<Rs.length:=by have:=x.2;have e:=uN is Rs (by omega);omega
 refine⟨?_,hx.1⟩;simp[Ku,List.getD,V8 hx.2]
def Fd(D:Nat)(w u:World):Prop:=(u.os=w.os/\u.tape=w.tape/\u.output=w.output)/\w.heap.size<=u.heap.size/\∀p,p<w.heap.size->p≠D->u.heap[p]?=w.heap[p]?
structure Dj(b:Bs)(X:List Value)(D:Nat)(vs:List Value)(w:World)(n:Nat)(pre:List (Fin n))(W:World):Prop where
 ex:∃a c,Cl W D 139 (X.set 13 (Sa a pre.length c))/\W.ownsRow w.heap.size 119 6 (Sa a pre.length c) pre.length (pre.flatMap λi=>Td (b.rn.getD i.1 L9,vs.getD i.1 undef))
 fr:Fd D w W
theorem a1u(b:Bs)(X:List Value)(D:Nat)(vs:List Value)(w:World)(n B:Nat)(hB:w.heap.size<=B):OwnFrom B (λpre W=>Dj b X D vs w n pre W):=λs W W' row h d hr=>by
 have f:∀r,row=some r->∃o:Obj,W.heap[r]?=some o/\o.isCells=false:=λr e=>(hr r e).2;obtain⟨a,c,h1,h2⟩:=h.ex;obtain⟨⟨e1,j,i⟩,hs,hk⟩:=h.fr;exact⟨⟨a,c,h1.nc d f,Tf h2 d f⟩,⟨d.os.trans e1,d.tape.trans j,d.output.trans i⟩,X7 hs d.size,λp g hD=>(d.block p (by omega) (λe=>by have:=(hr p e.symm).1;omega)).trans (hk p g hD)⟩
theorem AX(h:Dj b X D vs w n (List.finRange n) d)(e:n=b.rn.length):∃a c,Cl d D 139 (X.set 13 (Sa a b.rn.length c))/\d.ownsRow w.heap.size 119 6 (Sa a b.rn.length c) b.rn.length (cE Td L9 b.rn vs):=by
 subst e;obtain⟨a,c,h1,h2⟩:=h.ex;have e1:(List.finRange b.rn.length).length=b.rn.length:=J4;have f:((List.finRange b.rn.length).flatMap λi=>Td (b.rn.getD i.1 L9,vs.getD i.1 undef))=cE Td L9 b.rn vs:=by
  unfold cE;rw[zq,zq]
  congr 1
  apply xu
  ·simp
  intro i hi1 hi2;simp only[qx,List.getElem_finRange,List.getElem_range];rfl
 rw[e1]at h1 h2;rw[f]at h2;exact⟨a,c,h1,h2⟩
theorem SY{B:Nat}{U l m:World}{pre:List (Fin n)}{x:Fin n}{a a2:OA}{c c2:Nat}(hD:D<w.heap.size)(hX:X.length=53)(h:Dj b X D vs w n pre d)(p:Cl d D 139 (X.set 13 (Sa a pre.length c)))(ho:d.ownsRow w.heap.size 119 6 (Sa a pre.length c) pre.length (pre.flatMap λi=>Td (b.rn.getD i.1 L9,vs.getD i.1 undef)))(g:Bw d U)
 (C:l.ownsRow w.heap.size 119 6 (Sa a2 (pre.length+1) c2) (pre.length+1) ((pre.flatMap λi=>Td (b.rn.getD i.1 L9,vs.getD i.1 undef))++Td (b.rn.getD x.1 L9,vs.getD x.1 undef))) (f:U.grownBy l (Sa a pre.length c).ownBlock) (E:(Sa a2 (pre.length+1) c2).ownBlock=(Sa a pre.length c).ownBlock\/(Sa a2 (pre.length+1) c2).ownBlock=some U.heap.size) (I:m=l.setCell ⟨D,13,none⟩ (Sa a2 (pre.length+1) c2)):
 (KeepsFrom B d m/\Ar D 13 119 d m)/\Dj b X D vs w n (pre++[x]) m:=by
 have hz:=h.fr.2.1;have sU:=g.size;have sG:=f.size;have o:=((p.below g O0).gr f (row_ne ho O0)).set 13 (Sa a2 (pre.length+1) c2);have o3:=u_ l D 13 (Sa a2 (pre.length+1) c2);have y:(l.setCell ⟨D,13,none⟩ (Sa a2 (pre.length+1) c2)).ownsRow w.heap.size 119 6 (Sa a2 (pre.length+1) c2) (pre.length+1) ((pre.flatMap λi=>Td (b.rn.getD i.1 L9,vs.getD i.1 undef))++Td (b.rn.getD x.1 L9,vs.getD x.1 undef)):=Tv C _ _ (by show D<w.heap.size;omega);rw[List.set_set]at o;rw[<- I]at o o3 y;have s3:=o3.size;have H:∀k,k<d.heap.size->k≠D->(Sa a pre.length c).ownBlock≠some k->m.heap[k]?=d.heap[k]?:=λk hk r hf=>(o3.block k r).trans ((f.block k O0 (λe=>hf e.symm)).trans (g.block k hk));have u:∀v:Value,(X.set 13 v)[13]?=some v:=λv=>by rw[Xk (by omega)]
 have hf:=Ll (j:=13) p (u _);refine⟨Dl O0 (λk hk r h _=>H k hk r (hf▸h)) p.t (λq A=>⟨119,X6 ho (hf▸A)⟩) ?_,?_⟩
 ·rw[Ll o (u _),hf];rcases E with e|e
  ·exact .inl e
  exact .inr ⟨_,e,O0⟩
 have z:(pre++[x]).length=pre.length+1:=J4;refine⟨⟨a2,c2,?_,?_⟩,?_⟩
 ·rw[z];exact o
 ·rw[z,Vo,Xf,vJ,Vt];exact y
 obtain⟨⟨e1,K,J⟩,_,hk⟩:=h.fr;exact⟨⟨o3.os.trans (f.os.trans (g.os.trans e1)),o3.tape.trans (f.tape.trans (g.tape.trans K)),o3.output.trans (f.output.trans (g.output.trans J))⟩,by omega,λk F s=>(H k O0 s (λe=>by have:=X4 ho e;omega)).trans (hk k F s)⟩
theorem Fd.trans{v:World}(h:Fd D w u)(k:Fd D u v):Fd D w v:=⟨⟨k.1.1.trans h.1.1,k.1.2.1.trans h.1.2.1,k.1.2.2.trans h.1.2.2⟩,X7 h.2.1 k.2.1,λp a hD=>(k.2.2 p (P9 a h.2.1) hD).trans (h.2.2 p a hD)⟩
theorem Fd.below(h:Bw w u):Fd D w u:=⟨⟨h.os,h.tape,h.output⟩,h.size,λp a _=>h.block p a⟩
theorem Fd.on(h:Jr D w u):Fd D w u:=⟨⟨h.os,h.tape,h.output⟩,Vf h.size.symm,λp _ hD=>h.block p hD⟩
theorem Fd.cl{g t:Nat}{xs:List Value}(h:Fd D w u)(hC:Cl w g t xs)(hD:g≠D):Cl u g t xs:=(h.2.2 g hC.lt hD).trans hC
theorem Fd.fq{A:Nat}(h:Fd D w u)(hT:oh w D 139):Fq A w u:=⟨h.2.1,λp t a ht _=>h.2.2 p (Ld a) (λe=>by subst e;exact ht.2 (N8 a hT))⟩
theorem Fd.map{m:Nat}{l:List (ByteArray×Value)}(h:Fd D w u)(ho:w.ownsMap prog 9 h_ m n (mapD l))(hD:m≠D):u.ownsMap prog 9 h_ m n (mapD l):=by
 have hl:=ho.lt;obtain⟨es,b,a,r⟩:=ho;exact⟨es,b,(h.2.2 m hl hD).trans a,r⟩
attribute [local go_sem] Oper.semAt_some
theorem c78(b:Bs)(q:Ba)(D m1 m2 n1 n2 A:Nat)(pv:Value)(vs:List Value)(Rs:List Nat)(w:World)(hA:A<=w.heap.size)(hC:Cl w D 139 (bsV b q++pv::XV m1 m2))(hR:WC A w b q)(hG:Az Td L9 Rn.ls xw 119 6 213 4 A b.rn vs (Sa q.na b.rn.length q.nc) b.rn.length vs w)(hRs:Rs.length=b.rn.length)(hrs:∀i,i<Rs.length->Cl w (Rs.getD i 0) 119 (Td (b.rn.getD i L9,vs.getD i undef)))
 (o1:w.ownsMap prog 9 h_ m1 n1 (mapD (Ku b.rn Rs))) (o2:w.ownsMap prog 9 h_ m2 n2 (mapD (b.jb.map gJ))) (hA1:Asc (Ku b.rn Rs)) (hA2:Asc (b.jb.map gJ)) (hz1:∀p∈Ku b.rn Rs,p.1.size<=maxLen) (hz2:∀p∈b.jb.map gJ,p.1.size<=maxLen) (hl1:b.rn.length<=1000) (hl2:b.jb.length<=1000):
 Calls prog 78 #[Sd (some ⟨D,0,none⟩)] w λe w'=>(∃q',e=.returned (.agg (diV 0 (bsV b q')).toArray)/\WC A w' b q')/\Fd D w w':=by
 have HR:=U0 hR;have HG:=U0 hG;have hDl:=hC.lt;have hll:(Ku b.rn Rs).length=b.rn.length:=by rw[uN _ _ (by omega)];exact hRs
 have O2:=U0 o2;have HE:=U0 hRs;have HL2:=U0 hl2;have hm2:=U0 o2.lt;have hne:∀{m n:Nat}{l:List (ByteArray×Value)},w.ownsMap prog 9 h_ m n (mapD l)->m≠D:=λh e=>by
  obtain⟨es,c,hm⟩:=Ic h;have h2:=hC;unfold Cl at h2;rw[<- e,hm]at h2;cases h2
 have N1:=hne o1;have N2:=U0 (hne o2);have N3:Hid (∀i,i<Rs.length->Rs.getD i 0≠D):=λi k e=>by have:=hrs i k;rw[e]at this;exact absurd (N8 this.t hC.t) (by decide)
 obtain⟨X,hX⟩:∃X,X=bsV b q++pv::XV m1 m2:=⟨_,rfl⟩;have X17:X[17]?=some (.map (some m1)):=by rw[hX];rfl
 have X18:X[18]?=some (.map (some m2)):=by rw[hX];rfl
 have X51:X[51]?=some (Sa none 0 0):=by rw[hX];rfl
 have X52:X[52]?=some (Sa none 0 0):=by rw[hX];rfl
 have XL:X.length=53:=by rw[hX];rfl
 rw[<- hX]at hC;have XE:=U0 hX;have HCT:=U0 hC.t;have HC:=U0 hC;have O1:=U0 o1;have HRS:=U0 hrs;clear hR hG hrs o1 o2 hne hRs hl2 hC hX;refine NH func78 rfl ?_;simp only[ntmps78,Wp,f_,Fb,Nat.reduceAdd,Nat.reduceSub,Lp,Qq,Hr,Iq,Y9,jd]
 go_upto_region 1 with fail
 have CB:=U0 (E8 (I4 w [Sd (some ⟨D,0,none⟩)] 78) (Sg #[Sc Se 0,Sc Se 0,.bool false,Sc Se 0,Sc Se 0,Sc Se 0,Sa none 0 0,Sa none 0 0,Sa none 0 0,Sc Se 0,Sa none 0 0,Sa none 0 0,Sa none 0 0,Sa none 0 0,Sa none 0 0,Sa none 0 0,Sa none 0 0,Sa none 0 0] 51));have CR:=U0 (show Cl ((w.alloc (Sg #[Sd (some ⟨D,0,none⟩)] 78)).alloc (Sg #[Sc Se 0,Sc Se 0,.bool false,Sc Se 0,Sc Se 0,Sc Se 0,Sa none 0 0,Sa none 0 0,Sa none 0 0,Sc Se 0,Sa none 0 0,Sa none 0 0,Sa none 0 0,Sa none 0 0,Sa none 0 0,Sa none 0 0,Sa none 0 0,Sa none 0 0] 51)) (w.heap.size+1) 51 (diV 0 bz) from Oh (xs:=diV 0 bz) J4);have B0:Hid (Bw w ((w.alloc (Sg #[Sd (some ⟨D,0,none⟩)] 78)).alloc (Sg #[Sc Se 0,Sc Se 0,.bool false,Sc Se 0,Sc Se 0,Sc Se 0,Sa none 0 0,Sa none 0 0,Sa none 0 0,Sc Se 0,Sa none 0 0,Sa none 0 0,Sa none 0 0,Sa none 0 0,Sa none 0 0,Sa none 0 0,Sa none 0 0,Sa none 0 0] 51))):=U6.alloc J4 _;generalize (w.alloc (Sg #[Sd (some ⟨D,0,none⟩)] 78)).alloc (Sg #[Sc Se 0,Sc Se 0,.bool false,Sc Se 0,Sc Se 0,Sc Se 0,Sa none 0 0,Sa none 0 0,Sa none 0 0,Sc Se 0,Sa none 0 0,Sa none 0 0,Sa none 0 0,Sa none 0 0,Sa none 0 0,Sa none 0 0,Sa none 0 0,Sa none 0 0] 51)=V at*
 replace HC:=U0 (HC.o.below B0.o hDl)
 go_upto_region 2 with(first|(refine J7 CB.o rfl _ _ rfl rfl rfl Y0 ?_)|(refine Qc rfl 44 _ _ rfl (g:=D) (p:=13) rfl rfl Y0 HC.o (by rw[XL];omega) ?_;intro z cz oz))
 have hVs:=B0.o.size;have F0:=U0 ((Fd.below B0.o).trans (Fd.on oz));have CB1:=U0 (CB.o.on oz (by omega));have CR1:=U0 (CR.o.on oz (by omega));have CZ:Hid (Cl z D 139 (X.set 13 (Sa none 0 0))):=cz;have hc17:(X.set 13 (Sa none 0 0))[17]?=some (.map (some m1)):=by rw[w_ (by decide)];exact X17
 have hzl:w.heap.size+2<=z.heap.size:=by have:=CR1.o.lt;omega
 replace HRS:Hid (∀i,i<Rs.length->Cl z (Rs.getD i 0) 119 (Td (b.rn.getD i L9,vs.getD i undef))/\Rs.getD i 0≠D):=λi k=>⟨F0.o.cl (HRS.o i k) (N3.o i k),N3.o i k⟩
 replace O1:=U0 (F0.o.map O1.o N1)
 clear cz oz CB CR HC B0 N3
 go_wp2_with(first|(refine J7 CB1.o rfl _ _ rfl rfl rfl Y0 ?_)|(refine J7 CZ.o rfl _ _ rfl rfl hc17 Y0 ?_)|(go_at_call 131;refine(callsIn_wide.1 (c131 (some m1) 0 _)).mono ?_;rintro e w'⟨rfl,rfl⟩))
 have BU:Hid (Bw z (z.alloc (Sg #[.map (some m1)] 132))):=U6;have CM:=U0 (I4 z [.map (some m1)] 132);have hUs:(z.alloc (Sg #[.map (some m1)] 132)).heap.size=z.heap.size+1:=J4;generalize z.alloc (Sg #[.map (some m1)] 132)=U at*;have hDz:=CZ.o.lt;have CZU:=U0 (CZ.o.below BU.o hDz);have a7j:∀v:Value,(X.set 13 v)[13]?=some v:=λv=>by rw[Xk (by omega)]
 have hf0:=Ll (j:=13) CZU.o (a7j _);have hm:=CM.o.cell 0;have a8u:=O1.o.lt;have MU:=U0 (U9 O1.o BU.o a8u);have I0:Dj b X D vs U (Ku b.rn Rs).length [] U:=⟨⟨none,0,CZU.o,M_ _ _ _ _⟩,⟨rfl,rfl,rfl⟩,Y7 _,λ_ _ _=>rfl⟩;refine(wpIn_wide (n:=11)).1 (wpIn_rangeFunc_ownH rfl O0 (gf:=186) (lb:=#[Sd (some ⟨z.heap.size,0,none⟩)]) rfl trivial (enters_of func186 Y0 rfl)
  (a2m D 13 z.heap.size m1 n1 (Ku b.rn Rs) U hA1 hz1 (by omega) O0 hm MU.o CM.o.t O0 O0 N1 hf0)
  Ar.trans (Nz O0) (O4 _ _) (λ_=>rfl)
  (λpre W'=>Dj b X D vs U (Ku b.rn Rs).length pre W') (λ_ _ _=>False) (a1u _ _ _ _ _ _ _ (Y7 _)) (λ_ _ _ _ _ h _ _=>h) I0
  (λx a' W'=>a'={ tmps:=#[Sd (some ⟨D,0,none⟩),Sd (some ⟨w.heap.size,0,none⟩),Sd (some ⟨w.heap.size+1,0,none⟩),Sd (some ⟨Rs.getD x.1 0,0,none⟩),Sd (some ⟨D,0,none⟩),Sd (some ⟨D,0,none⟩),Sd (some ⟨D,0,none⟩),Sd (some ⟨D,13,none⟩),Sd (some ⟨D,0,none⟩),Sd (some ⟨D,0,none⟩),Sd (some ⟨D,17,none⟩),.map (some m1),.func (.func 186) #[] #[Sd (some ⟨z.heap.size,0,none⟩)],Sd (some ⟨Rs.getD x.1 0,0,none⟩),undef,undef,undef,undef,undef,undef,undef,undef,undef,undef,undef,undef,undef,undef,undef,undef,undef,undef,undef,undef,undef,undef,undef,undef,undef,undef,undef,undef,undef,undef,undef,undef,undef,undef,undef,undef,undef],defers:=[] }) ?hax ?assign ?body ?done ?stop)
 case hax=>
  rintro x a' s d W2 row h hg hr;exact h
 case assign=>
  intro l pre x d K k f;rw[(PS b.rn Rs HE.o x).1]
  gi_wp2
  exact f _ _ (KeepsFrom.refl _ _) (Ar.refl _ _ _ _) k rfl
 case body=>
  rintro l pre x a' d hl⟨r,hr⟩ k rfl hlt;have hx:=(PS b.rn Rs HE.o x).2;obtain⟨a,c,bS,oS⟩:=k.ex;have hz:=k.fr.2.1;have hxR:x.1<Rs.length:=by rw[HE.o];exact hx
  have hpl:pre.length<=1000:=by omega
  obtain⟨va,L,hvs,_⟩:=HG.o.gl _ hx;have HB0:=U0 bS;have I:=U0 oS;have HST:Hid (∀(Z w2 V6:World)(a2:OA)(c2:Nat),Bw d Z->w2.ownsRow U.heap.size 119 6 (Sa a2 (pre.length+1) c2) (pre.length+1) ((pre.flatMap λi=>Td (b.rn.getD i.1 L9,vs.getD i.1 undef))++Td (b.rn.getD x.1 L9,vs.getD x.1 undef))->Z.grownBy w2 (Sa a pre.length c).ownBlock->((Sa a2 (pre.length+1) c2).ownBlock=(Sa a pre.length c).ownBlock\/(Sa a2 (pre.length+1) c2).ownBlock=some Z.heap.size)->V6=w2.setCell ⟨D,13,none⟩ (Sa a2 (pre.length+1) c2)->(KeepsFrom U.heap.size d V6/\Ar D 13 119 d V6)/\Dj b X D vs U (Ku b.rn Rs).length (pre++[x]) V6):=λZ w2 V6 a2 c2 h1 h2 h3 h4 h5=>SY (by omega) XL k HB0.o I.o h1 h2 h3 h4 h5;have CBW:Hid (Cl d w.heap.size 78 [Sd (some ⟨D,0,none⟩)]):=k.fr.cl (CB1.o.below BU.o (by omega)) (by omega);have hRl:Rs.getD x.1 0<z.heap.size:=(HRS.o _ hxR).1.lt;have O:Hid (Cl d (Rs.getD x.1 0) 119 (Td (b.rn.getD x.1 L9,vs.getD x.1 undef))):=k.fr.cl ((HRS.o _ hxR).1.below BU.o (HRS.o _ hxR).1.lt) (HRS.o _ hxR).2;rw[hvs]at HST O;have eF:∀r:Rn,(pre.flatMap λi=>Td (b.rn.getD i.1 L9,vs.getD i.1 undef))=(pre.flatMap λi=>Td (b.rn.getD i.1 L9,vs.getD i.1 undef)):=λ_=>rfl;generalize (pre.flatMap λi=>Td (b.rn.getD i.1 L9,vs.getD i.1 undef))=XS at HST I;generalize b.rn.getD x.1 L9=y at HST O;generalize Rs.getD x.1 0=R at O hRl ⊢;generalize (Rn.ls y).length=vn at HST O;clear k bS oS hr hvs eF;have hd:Bw d d.drew:=(O4 _ _).drew
  gi_wp2_with fail
  refine rgL (T:=14) (S:=λu=>(u.cell? ⟨w.heap.size,0,none⟩=some (Sd (some ⟨D,0,none⟩))/\u.cell? ⟨D,13,none⟩=some (Sa a pre.length c))/\Cl u R 119 [Sb y.nm,Sc Se y.md,Sb y.wt,Sa va vn L,Sc Se y.cd,Sb y.tx]) Y0 ⟨⟨CBW.o.cell 0,(HB0.o.cell 13).trans (a7j _)⟩,O.o⟩ (λ⟨_,_,h⟩=>h) Y0 λhH=>?_
  iterate 8 refine TV ?_
  refine lq 8 hH ?_ (hv:=λu o=>N9 119 _ rfl (B:=R) (j:=0) (cs:=[Sb y.nm,Sc Se y.md,Sb y.wt,Sa va vn L,Sc Se y.cd,Sb y.tx]) rfl (λq v e=>by rw[Y8];exact(o.2.cell q).trans e) underlying119 rfl Y0)
  try simp only[qq]
  refine SC 9 λK f=>?_;go_simp;have HS:Hid (Cl (d.alloc (Sg #[Sb y.nm,Sc Se y.md,Sb y.wt,Sa va vn L,Sc Se y.cd,Sb y.tx] 119)).drew d.heap.size 119 [Sb y.nm,Sc Se y.md,Sb y.wt,Sa va vn L,Sc Se y.cd,Sb y.tx]):=I4 d [Sb y.nm,Sc Se y.md,Sb y.wt,Sa va vn L,Sc Se y.cd,Sb y.tx] 119;have hU2:Bw d (d.alloc (Sg #[Sb y.nm,Sc Se y.md,Sb y.wt,Sa va vn L,Sc Se y.cd,Sb y.tx] 119)).drew:=U6.drew;have sU2:(d.alloc (Sg #[Sb y.nm,Sc Se y.md,Sb y.wt,Sa va vn L,Sc Se y.cd,Sb y.tx] 119)).drew.heap.size=d.heap.size+1:=J4;generalize (d.alloc (Sg #[Sb y.nm,Sc Se y.md,Sb y.wt,Sa va vn L,Sc Se y.cd,Sb y.tx] 119)).drew=Z at*;have HV:Hid (∀u,Bw Z u\/Z.grownBy u (Sa a pre.length c).ownBlock->(u.cell? ⟨w.heap.size,0,none⟩=some (Sd (some ⟨D,0,none⟩))/\Cl u D 139 (X.set 13 (Sa a pre.length c)))/\Cl u R 119 [Sb y.nm,Sc Se y.md,Sb y.wt,Sa va vn L,Sc Se y.cd,Sb y.tx]):=by
   have h1:=CBW.o.below hU2 CBW.o.lt;have h2:=HB0.o.below hU2 HB0.o.lt;have h3:=O.o.below hU2 O.o.lt;rintro u (o|hg)
   ·exact⟨⟨(h1.below o h1.lt).cell 0,h2.below o h2.lt⟩,h3.below o h3.lt⟩
   exact⟨⟨(h1.gr hg (row_ne I.o (by omega))).cell 0,h2.gr hg (row_ne I.o (by omega))⟩,h3.gr hg (row_ne I.o (by omega))⟩
  have HO:=U0 (own_below I.o hU2);have HU2:=U0 hU2;have Hrf:=HV.o Z (.inl (O4 _ _));refine G9 f ⟨⟨Hrf.1.1,(Hrf.1.2.cell 13).trans (a7j _)⟩,Hrf.2⟩ λhH=>?_;clear f K Hrf hU2;refine SC 10 λK f=>?_;refine Ob rfl _ _ 44 rfl U.heap.size 119 6 underlying44 (Jc Y0) U5 _ pre.length XS rfl HO.o _ 1 [Sb y.nm,Sc Se y.md,Sb y.wt,Sa va vn L,Sc Se y.cd,Sb y.tx] rfl (.inr ⟨⟨d.heap.size,0,none⟩,1,rfl,rfl,yh HS.o⟩) (X5 rfl) O0 (by omega) ?_;intro v2 w2 hown hgrow hloc;obtain⟨a2,c2,rfl⟩:=x9 hown;have HT:=U0 (HST.o Z w2 _ a2 c2 HU2.o hown hgrow hloc rfl);have H2:=HV.o w2 (.inr hgrow);have C2:=U0 H2.1.2;refine G9 f ⟨⟨H2.1.1,(H2.1.2.cell 13).trans (a7j _)⟩,H2.2⟩ λhH=>?_;clear f K H2 hown hgrow hloc;refine SC 11 λK f=>?_;go_simp;refine G9 f hH λhH=>?_;clear f K;refine SC 12 λK f=>?_;go_simp;refine G9 f hH λhH=>?_;clear f K;refine TV ?_;refine lzq λK f=>?_;refine uo rfl (Ql 44 _ _ rfl (B:=D) (j:=13) rfl rfl ⟨_,(C2.o.cell 13).trans (a7j _)⟩ (C2.o.opn 13) Y0) ?_;change K _ (w2.setCell ⟨D,13,none⟩ (Sa a2 (pre.length+1) c2));refine f.o _ _ ?_;refine Ah Y0 ?_ _;exact⟨HT.o.1.1,HT.o.1.2,HT.o.2⟩
 case done=>
  rintro D2 xs d hD2 hxs k hKd;subst hxs;obtain⟨a,c,bS,oS⟩:=AX k hll;have F1:=U0 ((F0.o.trans (Fd.below BU.o)).trans k.fr);have CBW:Hid (Cl d w.heap.size 78 [Sd (some ⟨D,0,none⟩)]):=k.fr.cl (CB1.o.below BU.o (by omega)) (by omega);have O:Hid (Cl d (w.heap.size+1) 51 (diV 0 bz)):=k.fr.cl (CR1.o.below BU.o (by omega)) (by omega);have O2W:=U0 (F1.o.map O2.o N2.o);have HB0:=U0 bS;have I:=U0 oS;have HKD:=U0 hKd;have hUW:=k.fr.2.1;have a8v:=(Ya.1 hKd).1;clear k bS oS hKd hf0 hm I0 CZ CZU MU CM HRS O1;simp only[]
  go_upto_region 5 with fail
  have h18:(X.set 13 (Sa a b.rn.length c))[18]?=some (.map (some m2)):=by rw[w_ (by decide)];exact X18
  have HC:Hid (∀u,Bw d u->u.cell? ⟨w.heap.size,0,none⟩=some (Sd (some ⟨D,0,none⟩))/\u.cell? ⟨D,18,none⟩=some (.map (some m2))):=λu o=>⟨(CBW.o.below o CBW.o.lt).cell 0,((HB0.o.below o HB0.o.lt).cell 18).trans h18⟩;have H:=(O4 d.heap.size d).drew;refine mG HC H Y0 λhH=>?_
  iterate 5 refine sq ?_ (hQ:=λ_ _ _ h=>hQd U5 h)
  refine rq 5 λK f=>?_;go_simp;refine(callsIn_wide.1 (a4v (some m2) 0 _)).mono ?_;rintro e V⟨rfl,hV⟩;have hb:Bw d V:=by rw[hV];exact E5 H U6
  have CM2:Hid (Cl V d.heap.size 133 [.map (some m2)]):=by rw[hV];exact I4 d.drew _ _
  clear hV H;refine G9 f (HC.o _ hb) λhH=>?_;clear f K;refine rq 6 λK f=>?_;go_simp;refine(a5k _ m2 n2 b.jb V hA2 hz2 HL2.o CM2.o (U9 O2W.o hb O2W.o.lt)).mono ?_;rintro e V2⟨⟨C,c6,rfl,hr6⟩,hb6⟩;have hVl:d.heap.size<V.heap.size:=CM2.o.lt;have HJ:=U0 hr6;have J:=U0 (E5 hb hb6);have hsV:=hb6.size;clear hb hb6 hr6 CM2;refine G9 f (HC.o _ J.o) λhH=>?_;clear f K
  iterate 3 refine sq ?_ (hQ:=λ_ _ _ h=>hQd U5 h)
  refine rq 10 λK f=>?_;have D2C:=U0 (HB0.o.below J.o HB0.o.lt);have hlx:(X.set 13 (Sa a b.rn.length c)).length=53:=by rw[Qi];exact XL
  refine uo rfl (Ql 45 _ _ rfl (B:=D) (j:=14) rfl rfl ⟨_,(D2C.o.cell 14).trans (V8 (by omega))⟩ (D2C.o.opn 14) Y0) ?_;change K _ (V2.setCell ⟨D,14,none⟩ (Sa C b.jb.length c6));have o3:=u_ V2 D 14 (Sa C b.jb.length c6);have C3:=D2C.o.set 14 (Sa C b.jb.length c6);generalize V2.setCell ⟨D,14,none⟩ (Sa C b.jb.length c6)=V3 at*;have hs3:=o3.size;have a9i:=J.o.size;have CB3:=U0 ((CBW.o.below J.o CBW.o.lt).on o3 (by omega));have CR3:=U0 ((O.o.below J.o O.o.lt).on o3 (by omega));refine f.o _ _ ⟨CB3.o.cell 0,(C3.cell 18).trans (by rw[w_ (by decide)];exact h18)⟩ λhH=>?_;clear f K;refine wdn ?_;have E:Hid (Cl V3 D 139 (bsV b {q with na:=a,nc:=c,ja:=C,jc:=c6}++pv::XV m1 m2)):=by
   rw[XE.o]at C3;exact C3
  have O3:=U0 o3;clear C3 o3 hH D2C
  go_upto_region 6 with fail
  have HC2:Hid (∀u,Bw V3 u->(u.cell? ⟨w.heap.size,0,none⟩=some (Sd (some ⟨D,0,none⟩))/\u.cell? ⟨D,51,none⟩=some (Sa none 0 0)/\u.cell? ⟨D,52,none⟩=some (Sa none 0 0))/\Cl u D 139 (bsV b {q with na:=a,nc:=c,ja:=C,jc:=c6}++pv::XV m1 m2)):=λu o=>⟨⟨(CB3.o.below o CB3.o.lt).cell 0,(E.o.below o E.o.lt).cell 51,(E.o.below o E.o.lt).cell 52⟩,E.o.below o E.o.lt⟩;have H:=(O4 V3.heap.size V3).drew;refine mG HC2 H Y0 λhH=>?_
  iterate 3 refine sq ?_ (hQ:=λ_ _ _ h=>hQd U5 h)
  refine tq 3 hH ?_ (hv:=λu o=>N9 47 _ rfl (B:=D) (j:=0) (cs:=bsV b {q with na:=a,nc:=c,ja:=C,jc:=c6}) rfl (λq v e=>by rw[Y8];exact(o.2.cell q).trans ((D_ (ah.1 e).1).trans e)) underlying47 rfl Y0) (hQ:=λ_ _ _ h=>hQd U5 h)
  try simp only[qq]
  iterate 9 refine sq ?_ (hQ:=λ_ _ _ h=>hQd U5 h)
  refine rq 13 λK f=>?_;have CR4:=U0 (CR3.o.below H CR3.o.lt);refine qc rfl 51 _ _ rfl (B:=w.heap.size+1) (j:=0) rfl (vs:=diV 0 (bsV b {q with na:=a,nc:=c,ja:=C,jc:=c6})) rfl CR4.o A8 (X5 rfl) Y0 ?_;intro Y C5 N;have hs4:=N.size;have C6:Hid (Cl Y (w.heap.size+1) 51 (diV 0 (bsV b {q with na:=a,nc:=c,ja:=C,jc:=c6}))):=C5;have a9j:V3.drew.heap.size=V3.heap.size:=rfl;refine f.o _ _ ⟨⟨((CB3.o.below H CB3.o.lt).on N (by omega)).cell 0,((E.o.below H E.o.lt).on N (by omega)).cell 51,((E.o.below H E.o.lt).on N (by omega)).cell 52⟩,(E.o.below H E.o.lt).on N (by omega)⟩ λhH=>?_;clear f K;refine wdn ?_;have K4:Hid (∀p,p≠D->p≠w.heap.size+1->Y.heap[p]?=V2.heap[p]?):=λp h1 h2=>(N.block p h2).trans (O3.o.block p h1);have q4:Y.heap[D2]?=some (.deferred (some [])):=(K4.o D2 (by omega) (by omega)).trans ((J.o.block D2 a8v).trans HKD.o);have E4:Hid (Y.os=w.os/\Y.tape=w.tape/\Y.output=w.output):=⟨N.os.trans (O3.o.os.trans (J.o.os.trans F1.o.1.1)),N.tape.trans (O3.o.tape.trans (J.o.tape.trans F1.o.1.2.1)),N.output.trans (O3.o.output.trans (J.o.output.trans F1.o.1.2.2))⟩;clear hH N C5 H CR4 HC2 E CB3 CR3 HC;go_wp2;obtain⟨W,hV5⟩:∃W,W=Y.putObj D2 (.deferred none):=⟨_,rfl⟩;have K5:∀p,p≠D2->W.heap[p]?=Y.heap[p]?:=λp h=>by rw[hV5];exact World.putObj_heap_other h
  have s5:W.heap.size=Y.heap.size:=by rw[hV5];simp
  have F5:Fd D w W:=⟨by rw[hV5];exact E4.o,by have:=F1.o.2.1;omega,λp Q hpD=>(K5 p (by omega)).trans ((K4.o p hpD (by omega)).trans ((J.o.block p (by omega)).trans (F1.o.2.2 p Q hpD)))⟩;have RJ:W.ownsRow A 124 3 (Sa C b.jb.length c6) b.jb.length (b.jb.flatMap Kq):=I7 (Z4 HJ.o (λp Q=>(K5 p (by have:=X4 HJ.o Q;omega)).trans (K4.o p (by have:=X4 HJ.o Q;omega) (by have:=X4 HJ.o Q;omega)))) (by omega);have RR:W.ownsRow A 119 6 (Sa a b.rn.length c) b.rn.length (cE Td L9 b.rn vs):=I7 (Z4 I.o (λp Q=>by
   have h1:=X4 I.o Q;have h2:=o_ I.o Q;have h3:p≠D2:=λe=>by obtain⟨cur,fr,e'⟩:=X6 I.o Q;rw[e,HKD.o]at e';cases e'
   exact(K5 p h3).trans ((K4.o p (by omega) (by omega)).trans (J.o.block p h2)))) (by omega)
  have hT:oh w D 139:=HCT.o;have F:=HR.o.mv (F5.fq hT) (Y7 _);have G5:=HG.o.mv (F5.fq hT) (Y7 _) U5 U5;have cw:Cl W (w.heap.size+1) 51 (diV 0 (bsV b {q with na:=a,nc:=c,ja:=C,jc:=c6})):=(K5 _ (by omega)).trans C6.o;refine⟨J4,.inl ⟨_,_,rfl,run_takeDeferred q4,?_⟩⟩;rw[<- hV5];exact⟨_,l7 (P:=prog) (ty:=51) rfl _ W (w.heap.size+1) (diV 0 (bsV b {q with na:=a,nc:=c,ja:=C,jc:=c6})) _ rfl cw.blk underlying51 rfl Y0,⟨{q with na:=a,nc:=c,ja:=C,jc:=c6},rfl,{ sf:=F.sf,lo:=F.lo,fs:=F.fs,st:=F.st,hd:=F.hd,rt:=F.rt,rn:=⟨vs,G5.len,RR,G5.gl,G5.old,G5.apart⟩,jb:=RJ,n1:=F.n1,n2:=F.n2,n3:=F.n3,n4:=F.n4,n5:=F.n5,n6:=F.n6 }⟩,F5⟩
 case stop=>
  rintro D2 c' pre d _ _ h _;exact h.elim
