import Derived.Test.YtbgdfcmeheaiiaaGreatDooreYI
import Derived.Test.YtbgdfcmeheaiiaaGreatDoorvC
import Derived.Test.YtbgdfcmeheaiiaaGreatDoortT0
set_option linter.unusedVariables false
set_option linter.unusedSimpArgs false
set_option maxHeartbeats 8000000
set_option maxRecDepth 100000
namespace Go.Proofs.YtbgdfcmeheaiiaaGreatDoor
open Proofs.Tryz Go.RowKit Go.Maps
variable{l:List (ByteArray×Value)}{ts:LB}{B H b bP bR bT k n p:Nat}{W:Int}{rs:List R3}{rv:List Value}{w w':World}{x:R3}{gs:List G3}{a:OA}{key:BY}{is:List T.F2}
theorem a2t{x:BY}{c:Int}{u:List UInt8}(w:World)(d:x.size<=1048700)(hm:Oc w)(h:YE x.data.toList c u true):
 Calls prog 166 #[.string x] w λe w'=>e=.returned (.tuple #[.agg #[.int .i64 (hC x),.string (hT x)],.bool true])/\Bw w w':=by
 have a:=a3l x.data.toList w (by simpa using d) hm;rw[Ep]at a;refine a.mono ?_;rintro e w'⟨⟨c',t',ok,rfl,hr,_⟩,f⟩;obtain⟨rfl,rfl,rfl⟩:=JK hr h;obtain⟨e1,b⟩:=kK h;rw[Ep]at e1 b;exact⟨by rw[e1,b],f⟩
theorem zN{x:BY×Value}(h:∀p∈l,Dq p.1 x.1=true):Gg x l=l++[x]:=by
 induction l with
 | nil=>rfl
 | cons y r ih=>
  unfold Gg;have a:=h y (Nq ..);have:Dq x.1 y.1=false:=by
   cases hq:Dq x.1 y.1 with
   | false=>rfl
   | true=>have:=Zy a hq;rw[Jm]at this;cases this
  rw[this,ih (λp b=>h p (vg _ b))];simp
theorem XM(h:k<ts.length):ts.take (k+1)=ts.take k++[ts.getD k ByteArray.empty]:=by
 rw[Rq,D9 h];simp[List.getD,D9 h]
theorem NC(h:jk W ts)(k:Nat):jk W (ts.take k):=by
 unfold jk Asc at h ⊢;rw[List.map_take];exact h.sublist (List.take_sublist _ _)
theorem fU(h:jk W ts){k:Nat}(c:k<ts.length):(mapD ((ts.take k).map (gT W))).put (kS (G6 (ts.getD k ByteArray.empty) W)) (.held (hV (ts.getD k ByteArray.empty)))=mapD ((ts.take (k+1)).map (gT W)):=by
 have hA:=NC h (k+1);rw[XM c]at hA ⊢;unfold jk Asc at hA;rw[Gl,List.pairwise_append]at hA;have b:∀p∈(ts.take k).map (gT W),Dq p.1 (G6 (ts.getD k ByteArray.empty) W)=true:=λp a=>hA.2.2 p a (gT W (ts.getD k ByteArray.empty)) O4;rw[uz _ (Ea.2 (λp a e=>by have:=b p a;rw[e,Jm]at this;cases this))];rw[zN (x:=(G6 (ts.getD k ByteArray.empty) W,hV (ts.getD k ByteArray.empty))) b,Gl];rfl
theorem ShR.LZ{pl:List (ByteArray×Value)}(h:ShR B rs rv pl w)(b:w.grownBy w' (some bT))(hC:JB B H bT bR bP W l rv pl w):ShR B rs rv pl w':=by
 obtain⟨es,ck,a⟩:=Uh hC.tx;exact h.map b hC.hT a
theorem a0j{o:Nat}(h:IC w b o x)(d:Bw w w')(e:b<w.heap.size):∃c a,w'.cell? ⟨b,o,none⟩=some (.string x.key)/\w'.cell? ⟨b,o+1,none⟩=some (.slice c x.gs.length a)/\w'.cell? ⟨b,o+2,none⟩=some (.string x.out)/\YB w.heap.size w' (.agg #[.string x.key,.slice c x.gs.length a,.string x.out]) x:=by
 obtain⟨c,a,h0,h1,h2,f⟩:=h;refine⟨c,a,(d.cell (by exact e)).trans h0,(d.cell (by exact e)).trans h1,(d.cell (by exact e)).trans h2,c,a,rfl,V8 f d,?_⟩;rcases f with h|⟨b',off,ha,hl,_⟩
 ·exact .inl h
 exact .inr ⟨b',off,ha,.inl hl⟩
theorem XR(h:k<rs.length):rs.take (k+1)=rs.take k++[rs.getD k j_]:=by
 rw[Rq,D9 h];simp[List.getD,D9 h]
theorem Sh.below(h:Sh B H bT bR bP W l rs rv w)(a:Bw w w'):Sh B H bT bR bP W l rs rv w':=by
 obtain⟨pl,h1,h2⟩:=h;exact⟨pl,h1.below a,h2.below a⟩
def a2Q(s:St)(w w':World)(e:Ending):Prop:=∃H bT bR bP rv,e=.returned (.pointer (some ⟨H,0,none⟩))/\Sh w.heap.size H bT bR bP s.wd (s.ts.map (gT s.wd)) s.rs rv w'
theorem a2D(s:St)(ta ra:OA)(tc rc:Nat)(w:World)(f:Zg s)(hs:s.le 1048576)(Q:Ig w ta ra s)(hm:Oc w):
 Calls prog 115 #[.agg #[.int .i64 s.wd,.slice ta s.ts.length tc,.slice ra s.rs.length rc]] w λe w'=>a2Q s w w' e/\Bw w w':=by
 have hm0:=hm.1;have HA:=U0 (Wp f);have HT:=U0 f.2.1.2;have htl:=f.2.1.1;have Z:=U0 f.1;have hrl:=f.2.2.1;have HRO:=U0 f.2.2.2;have HSZ:=U0 hs.1.2;have HM:=U0 hm;obtain⟨b,off,hc⟩:=O_ Q.1;have HC:=U0 hc;have HR:=U0 Q.2;have hmm:=@run_makeMap prog;have sz4:(((((w.alloc (.cells #[vI s.wd,vL ta s.ts.length tc,vL ra s.rs.length rc] 49)).alloc (.map #[] 0)).alloc (.map #[] 0)).alloc (.map #[] 0)).alloc (.cells #[vI s.wd,.map (some (w.heap.size+1)),.map (some (w.heap.size+2)),.map (some (w.heap.size+3))] 276)).heap.size=w.heap.size+5:=O4;have B0:Bw w (((((w.alloc (.cells #[vI s.wd,vL ta s.ts.length tc,vL ra s.rs.length rc] 49)).alloc (.map #[] 0)).alloc (.map #[] 0)).alloc (.map #[] 0)).alloc (.cells #[vI s.wd,.map (some (w.heap.size+1)),.map (some (w.heap.size+2)),.map (some (w.heap.size+3))] 276)):=(((P6.alloc O4 _).alloc X7 _).alloc X7 _).alloc X7 _;have s0:(w.alloc (.cells #[vI s.wd,vL ta s.ts.length tc,vL ra s.rs.length rc] 49)).heap.size=w.heap.size+1:=O4;have s1:((w.alloc (.cells #[vI s.wd,vL ta s.ts.length tc,vL ra s.rs.length rc] 49)).alloc (.map #[] 0)).heap.size=w.heap.size+2:=O4;have s2:(((w.alloc (.cells #[vI s.wd,vL ta s.ts.length tc,vL ra s.rs.length rc] 49)).alloc (.map #[] 0)).alloc (.map #[] 0)).heap.size=w.heap.size+3:=O4;have s3:((((w.alloc (.cells #[vI s.wd,vL ta s.ts.length tc,vL ra s.rs.length rc] 49)).alloc (.map #[] 0)).alloc (.map #[] 0)).alloc (.map #[] 0)).heap.size=w.heap.size+4:=O4;have O:=World.ownsMap_made (w.alloc (.cells #[vI s.wd,vL ta s.ts.length tc,vL ra s.rs.length rc] 49)) prog 9 Oa;have L:=World.ownsMap_made ((w.alloc (.cells #[vI s.wd,vL ta s.ts.length tc,vL ra s.rs.length rc] 49)).alloc (.map #[] 0)) prog 3 Oa;have J:=World.ownsMap_made (((w.alloc (.cells #[vI s.wd,vL ta s.ts.length tc,vL ra s.rs.length rc] 49)).alloc (.map #[] 0)).alloc (.map #[] 0)) prog 9 Oa;have V:=I9 ((((w.alloc (.cells #[vI s.wd,vL ta s.ts.length tc,vL ra s.rs.length rc] 49)).alloc (.map #[] 0)).alloc (.map #[] 0)).alloc (.map #[] 0)) [vI s.wd,.map (some (w.heap.size+1)),.map (some (w.heap.size+2)),.map (some (w.heap.size+3))] 276;have F:=vK ((((w.alloc (.cells #[vI s.wd,vL ta s.ts.length tc,vL ra s.rs.length rc] 49)).alloc (.map #[] 0)).alloc (.map #[] 0)).alloc (.map #[] 0)) #[vI s.wd,.map (some (w.heap.size+1)),.map (some (w.heap.size+2)),.map (some (w.heap.size+3))] 276;rw[s0]at O;rw[s1]at L;rw[s2]at J;rw[s3]at V F;have C0:Hid (JB w.heap.size (w.heap.size+4) (w.heap.size+1) (w.heap.size+2) (w.heap.size+3) s.wd ((s.ts.take 0).map (gT s.wd)) [] [] (((((w.alloc (.cells #[vI s.wd,vL ta s.ts.length tc,vL ra s.rs.length rc] 49)).alloc (.map #[] 0)).alloc (.map #[] 0)).alloc (.map #[] 0)).alloc (.cells #[vI s.wd,.map (some (w.heap.size+1)),.map (some (w.heap.size+2)),.map (some (w.heap.size+3))] 276))):=U0 ⟨O0,O0,O0,O0,O0,O0,O0,O0,V,(O.alloc _).alloc _ |>.alloc _,List.Pairwise.nil,(L.alloc _).alloc _,J.alloc _,List.Pairwise.nil,F⟩;have R0:Hid (ShR w.heap.size [] [] [] (((((w.alloc (.cells #[vI s.wd,vL ta s.ts.length tc,vL ra s.rs.length rc] 49)).alloc (.map #[] 0)).alloc (.map #[] 0)).alloc (.map #[] 0)).alloc (.cells #[vI s.wd,.map (some (w.heap.size+1)),.map (some (w.heap.size+2)),.map (some (w.heap.size+3))] 276))):=U0 ⟨rfl,λi h=>absurd h (U7 _),λk v e=>by simp[Z_]at e,λk _=>rfl,λk k' v v' _ e=>by simp[Z_]at e,J9 _⟩;have D:Hid (E5 (((((w.alloc (.cells #[vI s.wd,vL ta s.ts.length tc,vL ra s.rs.length rc] 49)).alloc (.map #[] 0)).alloc (.map #[] 0)).alloc (.map #[] 0)).alloc (.cells #[vI s.wd,.map (some (w.heap.size+1)),.map (some (w.heap.size+2)),.map (some (w.heap.size+3))] 276)) w.heap.size [vI s.wd,vL ta s.ts.length tc,vL ra s.rs.length rc]):=U0 ((I9 w [vI s.wd,vL ta s.ts.length tc,vL ra s.rs.length rc] 49).below (N:=w.heap.size+1) (((((J4 _ _).alloc O4 _).alloc O4 _).alloc O4 _).alloc O4 _) O0);have y0:=D.out 0 _ rfl;have y1:=D.out 1 _ rfl
 go_in
 go_wp2_with fail
 generalize (((((w.alloc (.cells #[vI s.wd,vL ta s.ts.length tc,vL ra s.rs.length rc] 49)).alloc (.map #[] 0)).alloc (.map #[] 0)).alloc (.map #[] 0)).alloc (.cells #[vI s.wd,.map (some (w.heap.size+1)),.map (some (w.heap.size+2)),.map (some (w.heap.size+3))] 276))=U4 at*;go_loopw[20] (λi wr=>∃(k:Nat),k<=s.ts.length/\i=.int .i64 k/\Hid (JB w.heap.size (w.heap.size+4) (w.heap.size+1) (w.heap.size+2) (w.heap.size+3) s.wd ((s.ts.take k).map (gT s.wd)) [] [] wr)/\Hid (ShR w.heap.size [] [] [] wr)/\Hid (E5 wr w.heap.size [.int .i64 s.wd,.slice ta s.ts.length tc,.slice ra s.rs.length rc])/\Below w.heap.size w wr/\w.heap.size+5<=wr.heap.size) (λi _=>s.ts.length-(Go.RowKit.intOf i).toNat);exact⟨0,I4 _,rfl,C0,R0,D,B0,O0⟩;obtain⟨k,hk,rfl,C1,Y,W,p,szr⟩:=hrel;by_cases a:k<s.ts.length
 ·obtain⟨ha,hbw,hcell⟩:=Zb HC.out a;subst ha;have g0:=(p.cell (by exact hbw)).trans (hcell k a);obtain⟨cc,tt,hI⟩:=(HT.out k a).1;have hxs:=HSZ.out k;have a6x:=U0 (fU HA a);have a6y:=U0 (NC HA (k+1));have HNL:Hid (((s.ts.take k).map (gT s.wd)).length<maxLen):=by show _<_;simp;unfold maxLen;omega
  have HKM:Hid ((G6 (s.ts.getD k ByteArray.empty) s.wd).size<=maxLen):=by show _<=_;have:=pq (s:=s.ts.getD k ByteArray.empty) Z.out;have:=Z.out;unfold maxLen;omega
  generalize hx:s.ts.getD k ByteArray.empty=x at*;have P:x.size<=1048700:=O0;have h57:=a2t wr P (H9 HM p) hI
  go_wp2_with fail
  refine h57.mono ?_;rintro e u1⟨rfl,t⟩;have su1:=t.size;have BA:Bw w (u1.alloc (.cells #[vI (hC x),vS (hT x)] 71)):=(p.trans (t.mono O0)).alloc O0 _;have B:Bw wr (u1.alloc (.cells #[vI (hC x),vS (hT x)] 71)):=t.alloc su1 _;have E:=U0 (C1.out.below B);have RA:=U0 (Y.out.below B);have yx:=U0 (W.out.below B O0);have r:=U0 (I9 u1 [vI (hC x),vS (hT x)] 71);have szA:(u1.alloc (.cells #[vI (hC x),vS (hT x)] 71)).heap.size=u1.heap.size+1:=O4;have hD:u1.heap.size<(u1.alloc (.cells #[vI (hC x),vS (hT x)] 71)).heap.size:=O0
  go_wp2_with fail
  generalize (u1.alloc (.cells #[vI (hC x),vS (hT x)] 71))=q at*;have f0:=E.out.blk 0 _ rfl;have f1:=E.out.blk 1 _ rfl;have U:=r.out 0 _ rfl;have R:=r.out 1 _ rfl;refine wp_region_held_drew (S:=(λu=>u.cell? (aA (w.heap.size+4) 0)=some (vI s.wd)/\u.cell? (aA (w.heap.size+4) 1)=some (.map (some (w.heap.size+1)))/\u.cell? (aW u1 0)=some (vI (hC x))/\u.cell? (aW u1 1)=some (vS (hT x)))) Y0 ?_ λhHeld=>?_
  ·exact⟨f0,f1,U,R⟩
  refine U8 0 ?_;refine U8 1 ?_;refine U8 2 ?_;refine U8 3 ?_;refine U8 4 ?_;refine U8 5 ?_;refine U8 6 ?_;refine U8 7 ?_;refine U8 8 ?_;refine U8 10 ?_;refine U8 11 ?_;refine U8 12 ?_;refine rq 9 λK y=>?_;go_simp;refine(c167 x s.wd _ P).mono ?_;rintro e v1⟨rfl,hbv⟩
  go_wp2_with fail
  have c:Bw q v1:=((J4 _ _).drew).trans hbv;have sv1:=c.size;have m:=U0 (E.out.below c);have RV:=U0 (RA.out.below c);have BV:=BA.trans (c.mono O0);have h0:=m.out.blk 0 _ rfl;have h1:=m.out.blk 1 _ rfl;have w0:=(c.cell (by exact(show u1.heap.size<q.heap.size by omega))).trans U;have w1:=(c.cell (by exact(show u1.heap.size<q.heap.size by omega))).trans R;have yb:=U0 (yx.out.below c O0);have H:=U0 (r.out.below c O0);refine X8 y ⟨h0,h1,w0,w1⟩ λhHeld=>?_;refine rq 13 λK y=>?_;refine xA (l:=(s.ts.take k).map (gT s.wd)) (k:=G6 x s.wd) (vv:=hV x) rfl 272 (.tmp 32) (.tmp 38) (.tmp 41) rfl rfl rfl rfl m.out.tx underlying272 HNL HKM rfl ?_;intro v2 g d;rw[a6x.out]at g
  replace g:=Ej g
  rw[Ec]at g;have n:=U0 (m.out.upT d g a6y);have R2:=U0 (RV.out.LZ d m);have B2:=BV.trans (G_ d (λj e=>by cases e;omega) O0);have sv2:=d.size;have neT:some w.heap.size≠some (w.heap.size+1):=λe=>by have:=D_ e;omega
  have y2:=U0 (Xa yb d O0 neT);have j0:=n.out.blk 0 _ rfl;have j1:=n.out.blk 1 _ rfl;have I:some u1.heap.size≠some (w.heap.size+1):=λe=>by have:=D_ e;omega
  have z0:=(Xa (vs:=[vI (hC x),vS (hT x)]) H d O0 I) 0 _ rfl;have z1:=(Xa (vs:=[vI (hC x),vS (hT x)]) H d O0 I) 1 _ rfl;refine X8 y ⟨j0,j1,z0,z1⟩ λhHeld=>?_;refine wdn ?_;go_wp2;go_roundw;exact⟨k+1,O0,by go_num,n,R2,y2,B2,O0⟩;exact P9
 obtain rfl:k=s.ts.length:=O0;have n:Hid (JB w.heap.size (w.heap.size+4) (w.heap.size+1) (w.heap.size+2) (w.heap.size+3) s.wd (s.ts.map (gT s.wd)) [] [] wr):=by have h:=C1.out;rw[qp]at h;exact h
 have z2:=W.out 2 _ rfl;have S2:Hid (Sh w.heap.size (w.heap.size+4) (w.heap.size+1) (w.heap.size+2) (w.heap.size+3) s.wd (s.ts.map (gT s.wd)) (s.rs.take 0) [] wr):=⟨[],n,Y⟩;go_wp2;go_loopw[46] (λi wr=>∃(k:Nat)(rv:List Value),k<=s.rs.length/\i=.int .i64 k/\Hid (Sh w.heap.size (w.heap.size+4) (w.heap.size+1) (w.heap.size+2) (w.heap.size+3) s.wd (s.ts.map (gT s.wd)) (s.rs.take k) rv wr)/\Below w.heap.size w wr) (λi _=>s.rs.length-(Go.RowKit.intOf i).toNat);exact⟨0,[],I4 _,rfl,S2,p⟩;obtain⟨k,rv,hk,rfl,X,o⟩:=hrel;by_cases a:k<s.rs.length
 ·obtain⟨rb,ro,hra,hrb,hrec⟩:=Zb HR.out a;subst hra;obtain⟨C,z,r0,r1,r2,hV⟩:=a0j (hrec k a) o hrb;have HTK:=U0 (XR a);have hkey:(s.rs.getD k j_).key.size<=1048700:=by have:=(HRO.out k a).1.1;omega
  have htk:(s.rs.take k).length<=1000:=X7;generalize s.rs.getD k j_=x at*;have A:Bw wr (wr.alloc (.cells #[vS x.key,vL C x.gs.length z,vS x.out] 176)):=P6;have S4:=U0 (X.out.below A);have V4:=hV.kept (Bf A) (λ_ e=>by cases e);have h59:=c168 _ _ _ _ _ _ _ _ _ x C z _ S4 V4 htk hkey;have hZq:=o.size
  go_wp2_with fail
  refine h59.mono ?_;rintro e u5⟨rfl,S5,B5,_⟩;have S6:Hid (Sh w.heap.size (w.heap.size+4) (w.heap.size+1) (w.heap.size+2) (w.heap.size+3) s.wd (s.ts.map (gT s.wd)) (s.rs.take (k+1)) (rv++[.agg #[vS x.key,vL C x.gs.length z,vS x.out]]) u5):=by show Sh _ _ _ _ _ _ _ _ _ _;rw[HTK.out];exact S5
  have B6:=(o.trans (A.mono hZq)).trans B5;go_wp2;go_roundw;exact⟨k+1,_,O0,by go_num,S6,B6⟩;exact P9
 obtain rfl:k=s.rs.length:=O0;have S7:Hid (Sh w.heap.size (w.heap.size+4) (w.heap.size+1) (w.heap.size+2) (w.heap.size+3) s.wd (s.ts.map (gT s.wd)) s.rs rv wr):=by have h:=X.out;rw[qp]at h;exact h
 go_wp2;go_ret;exact⟨⟨_,_,_,_,rv,rfl,S7⟩,o⟩
open Go.RowKit Go.Maps Go.Sort Go.Shelf
attribute [local go_sem] Oper.semAt_some
theorem a4h(a:Option Nat)(n:Nat)(w:World):CallsIn Fence.wide n prog 174 #[.map a] w λe w'=>e=.returned (.func (.func 244) #[] #[.pointer (some ⟨w.heap.size,0,none⟩)])/\w'=w.alloc (.cells #[.map a] 272):=by
 refine callsIn_of_wp func174 rfl trivial ?_ rfl;simp only[ntmps174,yB,x_,ve,Nat.reduceAdd,Nat.reduceSub,dA,Jy,UA,JA,Qb,Ff]
 gi_wp2
 go_ret;exact⟨rfl,rfl⟩
theorem c175(a:Option Nat)(n:Nat)(w:World):CallsIn Fence.wide n prog 175 #[.map a] w λe w'=>e=.returned (.func (.func 247) #[] #[.pointer (some ⟨w.heap.size,0,none⟩)])/\w'=w.alloc (.cells #[.map a] 273):=by
 refine callsIn_of_wp func175 rfl trivial ?_ rfl;simp only[ntmps175,yB,x_,ve,Nat.reduceAdd,Nat.reduceSub,dA,Jy,UA,JA,Qb,Ff]
 gi_wp2
 go_ret;exact⟨rfl,rfl⟩
def gC(gs:List G3):List Value:=gs.flatMap λg=>[.bool g.nm,.string g.tl,.string g.ar]
theorem LP(gs:List G3):(gC gs).length=gs.length*3:=by
 induction gs with
 | nil=>rfl
 | cons x r ih=>simp only[gC,Ag,L9]at ih ⊢;rw[ih];simp;omega
theorem BQ(gs:List G3):∀u∈gC gs,u.oneCell'=true:=λu a=>by
 obtain⟨g,_,h⟩:=fF.1 a;simp at h;rcases h with rfl|rfl|rfl<;>rfl
theorem qY(gs:List G3):∀k,k<gs.length->(gC gs)[k*3]?=some (.bool (gs.getD k ah).nm)/\(gC gs)[k*3+1]?=some (.string (gs.getD k ah).tl)/\(gC gs)[k*3+2]?=some (.string (gs.getD k ah).ar):=by
 induction gs with
 | nil=>intro k a;exact absurd a (U7 _)
 | cons x r ih=>
  intro k a
  cases k with
  | zero=>exact⟨rfl,rfl,rfl⟩
  | succ k=>
   have:=ih k (by simpa using a);have e1:(k+1)*3=k*3+1+1+1:=O0;rw[e1];exact this
theorem a0u{off:Nat}(h:∀i,i<gs.length->w.cell? ⟨b,off+i*3,none⟩=some (.bool (gs.getD i ah).nm)/\w.cell? ⟨b,off+i*3+1,none⟩=some (.string (gs.getD i ah).tl)/\w.cell? ⟨b,off+i*3+2,none⟩=some (.string (gs.getD i ah).ar)):∀j v,(gC gs)[j]?=some v->w.cell? ((⟨b,off,none⟩:Addr).add j)=some v:=by
 intro j v a;rw[Sj];have hlt:j<gs.length*3:=by rw[<- LP];exact(Rl.1 a).1
 obtain⟨q,hq⟩:∃q,j / 3=q:=⟨_,rfl⟩;have c:q<gs.length:=O0;obtain⟨d,a1,a2⟩:=qY gs q c;obtain⟨b0,k,g⟩:=h q c;have f:j=q*3\/j=q*3+1\/j=q*3+2:=O0;rcases f with e|e|e
 ·subst e;rw[a]at d;cases d;exact b0
 ·subst e;rw[a]at a1;cases a1;exact k
 subst e;rw[a]at a2;cases a2;exact g
theorem yP:(prog.info? 256).map (λi=>(i.zero,i.size,i.bytes))=some (some (.agg #[.bool false,.string ⟨#[]⟩,.string ⟨#[]⟩]),3,40):=Y0
theorem OJ{base:Nat}{c:Nat}(h:w.ownsRow base 256 3 (.slice a gs.length c) gs.length (gC gs)):W_ w a gs:=by
 have b:=h;rcases h.2 with⟨hv,h0⟩|⟨g,cap,cur,hv,hg,e,_⟩
 ·exact .inl (La.1 h0)
 simp only[Ir]at hv;obtain⟨rfl,_,rfl⟩:=hv;refine .inr ⟨g,0,rfl,(Ua.1 e).1,λk d=>?_⟩;obtain⟨f,a1,a2⟩:=qY gs k d;refine⟨?_,?_,?_⟩
 ·rw[l7,b.cellAt (k*3) O0];exact f
 ·rw[l7,b.cellAt (k*3+1) O0];exact a1
 rw[l7,b.cellAt (k*3+2) O0];exact a2
theorem QN(b:Addr)(c:Nat)(gs:List G3)(w:World)(hl:gs.length<=1048576)(f:∀u,Bw w u->∀j v,(gC gs)[j]?=some v->u.cell? (b.add j)=some v):
 Calls prog 176 #[.slice (some b) gs.length c] w λe w'=>(∃d a,e=.returned (.slice d gs.length a)/\w'.ownsRow w.heap.size 256 3 (.slice d gs.length a) gs.length (gC gs))/\Bw w w':=by
 obtain⟨l,q,o,n,m⟩:=info_parts' yP;have hnil:∀u,(binOp .eql 174 (vL (some b) gs.length c) vN).run prog u=.ok (.bool false) u:=λu=>Y0;have t:=U0 f;clear f
 go_in
 have p:=trivial
 go_wp2_with(refine zA rfl (.tmp 5) (.tmp 6) 174 rfl w.heap.size 256 l (.agg #[.bool false,.string ⟨#[]⟩,.string ⟨#[]⟩]) 3 40 underlying174 q o n m rfl J6 _ _ _ rfl ((World.ownsRow_made w #[] 0 Y8 (Nat.zero_le _) rfl)) b gs.length c (gC gs) rfl (LP gs) (t.out _ P6) (BQ gs) (by unfold maxLen;omega) O0 O4 ?_;revert p)
 intro v' w2 g r;obtain⟨d,a,rfl⟩:=Z9 g;have s:=P6.grown r O4 (λk h=>by have i:some w.heap.size=some k:=h;injection i with i;omega);go_wp2;go_ret;exact⟨⟨d,a,rfl,g⟩,s⟩
theorem WL(c:Nat)(w:World):
 Calls prog 176 #[.slice none 0 c] w λe w'=>e=.returned (.slice none 0 0)/\Bw w w':=by
 have hnil:∀u,(binOp .eql 174 (vL none 0 c) vN).run prog u=.ok (.bool true) u:=λu=>Y0
 go_in
 go_wp2;go_ret;exact⟨rfl,J4 _ _⟩
theorem a2O(a:OA)(c:Nat)(gs:List G3)(w:World)(hl:gs.length<=1048576)(k:W_ w a gs):
 Calls prog 176 #[.slice a gs.length c] w λe w'=>(∃m l,e=.returned (.slice m gs.length l)/\w'.ownsRow w.heap.size 256 3 (.slice m gs.length l) gs.length (gC gs))/\Bw w w':=by
 cases a with
 | none=>
  rcases k with rfl|⟨b,off,h,_⟩
  ·refine(WL c w).mono ?_;rintro e w'⟨rfl,o⟩;exact⟨⟨none,0,rfl,og _ _ _ _⟩,o⟩
  cases h
 | some ad=>
  refine QN ad c gs w hl λu d=>?_;rcases k with rfl|⟨b,off,h,f,hc⟩
  ·intro j v n;simp[gC]at n
  cases h
  exact a0u (λi g=>⟨(d.cell (by exact f)).trans (hc i g).1,(d.cell (by exact f)).trans (hc i g).2.1,(d.cell (by exact f)).trans (hc i g).2.2⟩)
theorem zX(h:k<(qx rs key).length):∃p:Nat,(qx rs key).getD k 0=(p:Int)/\p<rs.length/\(rs.getD p j_).key=key:=by
 unfold qx at h ⊢;rw[Je]at h;have hm:=ji h;refine⟨_,?_,yt.1 (yw.1 hm).1,by simpa using(yw.1 hm).2⟩;rw[Fj,Az,D9 h];rfl
theorem dV(b:p<rs.length)(d:(rs.getD p j_).key=key):∃k,k<(qx rs key).length/\(qx rs key).getD k 0=(p:Int):=by
 unfold qx;have hm:p∈(List.range rs.length).filter λi=>decide ((rs.getD i j_).key=key):=yw.2 ⟨yt.2 b,by simpa using d⟩;obtain⟨k,a,c⟩:=Ce hm;refine⟨k,by rw[Je];exact a,?_⟩;rw[Fj,Az,D9 a,c];rfl
theorem mO(a:p<rs.length):rs.getD p j_∈rs:=by
 have:rs.getD p j_=rs[p]:=by simp[List.getD,D9 a]
 rw[this];exact ji a
theorem lN(h:x∈rs):∃p,p<rs.length/\rs.getD p j_=x:=by
 obtain⟨p,a,e⟩:=Ce h;exact⟨p,a,by simp[List.getD,D9 a,e]⟩
theorem pI{va:OA}{a:Nat}{zs:List Int}(h:w.ownsInts B 3 .i64 (.slice va n a) zs):n=zs.length/\(n=0\/∃g,va=some ⟨g,0,none⟩/\g<w.heap.size/\∀k,k<n->w.cell? ⟨g,k,none⟩=some (.int .i64 (zs.getD k 0))):=by
 have b:=h.1;rcases h.1.2 with⟨hv,h0⟩|⟨g,cap,cur,hv,hg,d,_⟩
 ·simp at hv;exact⟨O0,.inl O0⟩
 simp only[Ir]at hv;obtain⟨rfl,rfl,rfl⟩:=hv;refine⟨rfl,.inr ⟨g,rfl,(Ua.1 d).1,λk c=>?_⟩⟩;rw[b.cellAt k O0];simp[List.getD,D9 c]
theorem a2U(B H bT bR bP:Nat)(W:Int)(l:List (ByteArray×Value))(rs:List R3)(rv:List Value)(x:R3)(a:OA)(c:Nat)(w:World)(hSh:Sh B H bT bR bP W l rs rv w)(hx:W_ w a x.gs)(hn:rs.length<=1000)(hk:x.key.size<=1048700)(hg:x.gs.length<=1048576)(hgs:∀i,(rs.getD i j_).gs.length<=1048576):
 Calls prog 242 #[.pointer (some ⟨H,0,none⟩),.agg #[.string x.key,.slice a x.gs.length c,.string x.out]] w λe w'=>Rb (x∈rs) e/\Bw w w':=by
 obtain⟨pl,hC,hR⟩:=hSh;have hrl:=hR.len;have a5G:=hC.lt;obtain⟨v,hv⟩:∃v,(Z_ pl x.key).getD (.slice none 0 0)=v:=⟨_,rfl⟩;have t:=ints_at hR hv (J4 _ _);obtain⟨va,vc,Q⟩:=Z9 t.1;rw[Q]at t hv;obtain⟨_,hcs⟩:=pI t;have HCS:=U0 hcs;have hln:(qx rs x.key).length<=1000:=Q8 (ND _ _) hn;obtain⟨es,N,J,hpF,Z,hpD⟩:=hC.pc;obtain⟨A,C,I,U,R,V⟩:=hC.rc;have hbP:=(Ua.1 J).1;have hbR:=(Ua.1 I).1;have hkm:x.key.size<=maxLen:=by unfold maxLen;omega
 have HLK:Hid (∀u:World,u.heap[bP]?=some (.map es N)->(Instr.lookup 274 (.map (some bP)) (.string x.key) false).run prog u=.ok (.slice va (qx rs x.key).length vc) u):=λu q=>by
  rw[<- hv];exact wI (n:=pl.length) ⟨es,N,q,hpF,Z,hpD⟩ underlying274 Y0 hkm
 have HLA:Hid (∀(u:World)(p:Nat),p<rs.length->u.heap[bR]?=some (.map A C)->(Instr.lookup 273 (.map (some bR)) (.int .i64 p) false).run prog u=.ok (rv.getD p undef) u):=λu p o q=>
  jQ (n:=rv.length) (z:=.agg #[.string ⟨#[]⟩,.slice none 0 0,.string ⟨#[]⟩]) ⟨A,C,q,U,R,V⟩ underlying273 Y0 O0 O0
 have HRC:=U0 hR.recs;have d:Bw w (w.alloc (.cells #[.string x.key,.slice a x.gs.length c,.string x.out] 176)):=P6;have sz0:(w.alloc (.cells #[.string x.key,.slice a x.gs.length c,.string x.out] 176)).heap.size=w.heap.size+1:=O4;have hp0:=(d.block bP hbP).trans J;have X:=(d.block bR hbR).trans I;have D:Hid (E5 (w.alloc (.cells #[.string x.key,.slice a x.gs.length c,.string x.out] 176)) w.heap.size [.string x.key,.slice a x.gs.length c,.string x.out]):=U0 (I9 w [.string x.key,.slice a x.gs.length c,.string x.out] 176);have f2:=(hC.below d).blk 2 _ rfl;have f3:=(hC.below d).blk 3 _ rfl;have e0:=D.out 0 _ rfl;have e1:=D.out 1 _ rfl;have e2:=D.out 2 _ rfl;have HX:=U0 (V8 hx d);have HW:=U0 d;clear hC hR hx hv Q t J hpF Z hpD I U R V hcs hrl D
 go_in
 go_wp2_with fail
 generalize (w.alloc (.cells #[.string x.key,.slice a x.gs.length c,.string x.out] 176))=b at*;refine wp_region_held_drew (S:=(λu=>u.cell? ⟨H,3,none⟩=some (.map (some bP))/\u.cell? ⟨w.heap.size,0,none⟩=some (.string x.key)/\u.heap[bP]?=some (.map es N))) Y0 ?_ λhHeld=>?_
 ·exact⟨f3,e0,hp0⟩
 iterate 6 refine sq ?_
 refine tq 6 hHeld ?_ (v:=?_) (hv:=?e)
 case e=>intro wq hSw;(try dsimp only at hSw);have hq:=HLK.out wq hSw.2.2;go_simp;try with_reducible rfl
 try simp only[qq]
 iterate 2 refine sq ?_
 refine wdn ?_;go_wp2;go_loopw[15] (λi wr=>∃(k:Nat),k<=(qx rs x.key).length/\i=.int .i64 k/\Hid (∀j,j<k->rs.getD ((qx rs x.key).getD j 0).toNat j_≠x)/\Below b.heap.size b wr) (λi _=>(qx rs x.key).length-(Go.RowKit.intOf i).toNat);exact⟨0,I4 _,rfl,λj r=>absurd r (U7 _),(J4 _ _).drew⟩;obtain⟨k,hk,rfl,HJ,s⟩:=hrel;by_cases hlt:k<(qx rs x.key).length
 ·rcases HCS.out with h0|⟨g,hva,hgw,hcell⟩
  ·omega
  subst hva;obtain⟨p,O,o,hkp⟩:=zX hlt;have ck0:=(s.cell (by exact(show g<b.heap.size by omega))).trans ((d.cell (by exact hgw)).trans (hcell k hlt));rw[O]at ck0;obtain⟨a2,c2,F,L,_⟩:=HRC.out p o;have P:=hgs p;obtain⟨y,E⟩:∃y,rs.getD p j_=y:=⟨_,rfl⟩;rw[E]at F L P;have HY:=U0 E;clear E;have HLR:Hid (∀u:World,u.heap[bR]?=some (.map A C)->(Instr.lookup 273 (.map (some bR)) (.int .i64 p) false).run prog u=.ok (.agg #[.string y.key,.slice a2 y.gs.length c2,.string y.out]) u):=λu q=>by
   rw[<- F];exact HLA.out u p o q
  have f:=s.drew;have q2:=(f.cell (by exact(show H<b.heap.size by omega))).trans f2;have y0:=(f.cell (by exact(show w.heap.size<b.heap.size by omega))).trans e0;have y1:=(f.cell (by exact(show w.heap.size<b.heap.size by omega))).trans e1;have y2:=(f.cell (by exact(show w.heap.size<b.heap.size by omega))).trans e2;have hpr:=(f.block bR (show bR<b.heap.size by omega)).trans X;have G2:=V8 L (HW.out.trans (f.mono O0));have GX:=V8 HX.out f;clear hcell L F
  go_wp2_with fail
  refine wp_region_held_drew (S:=(λu=>u.cell? ⟨H,2,none⟩=some (.map (some bR))/\u.cell? ⟨w.heap.size,0,none⟩=some (.string x.key)/\u.cell? ⟨w.heap.size,1,none⟩=some (.slice a x.gs.length c)/\u.cell? ⟨w.heap.size,2,none⟩=some (.string x.out)/\u.heap[bR]?=some (.map A C))) Y0 ?_ λhHeld=>?_
  ·exact⟨q2,y0,y1,y2,hpr⟩
  iterate 5 refine sq ?_
  refine tq 5 hHeld ?_ (v:=?_) (hv:=?e)
  case e=>intro wq hSw;(try dsimp only at hSw);have hq:=HLR.out wq hSw.2.2.2.2;go_simp;try with_reducible rfl
  try simp only[qq]
  refine sq ?_;refine rq 7 λK hK=>?_;go_simp;refine(a2N y x a2 a c2 c _ P hg G2 GX).mono ?_;rintro e u1⟨⟨bb,rfl,hbb⟩,hb1⟩
  go_wp2_with fail
  have m:=f.trans (hb1.mono (by show b.heap.size<=wr.heap.size;exact s.size));have p2:=(m.cell (by exact(show H<b.heap.size by omega))).trans f2;have p0:=(m.cell (by exact(show w.heap.size<b.heap.size by omega))).trans e0;have p1:=(m.cell (by exact(show w.heap.size<b.heap.size by omega))).trans e1;have p3:=(m.cell (by exact(show w.heap.size<b.heap.size by omega))).trans e2;have pr:=(m.block bR (show bR<b.heap.size by omega)).trans X;clear hHeld;refine X8 hK ⟨p2,p0,p1,p3,pr⟩ λhHeld=>?_;clear hK K hHeld;refine wdn ?_;cases bb
  ·go_wp2;go_roundw;exact⟨k+1,O0,by go_num,λj r=>by
    rcases P7 j k with h|h
    ·exact HJ.out j h
    obtain rfl:j=k:=O0;rw[O];exact λe=>absurd (hbb.2 (HY.out.symm.trans e)) Jh,m⟩
   exact P9
  go_wp2;go_ret;exact⟨⟨true,rfl,λ_=>(HY.out.trans (by simpa using hbb))▸mO o,λ_=>rfl⟩,d.trans (m.mono O0)⟩
 obtain rfl:k=(qx rs x.key).length:=O0;go_wp2;go_ret;refine⟨⟨false,rfl,λh=>absurd h Jh,λh=>?_⟩,d.trans (s.mono O0)⟩;obtain⟨p,o,Y⟩:=lN h;obtain⟨j,r,hjp⟩:=dV o (by rw[Y]);have:=HJ.out j r;rw[hjp]at this;exact absurd Y this
open Go.RowKit
def VZ(x:T.F2):List Value:=[.string x.nm,.string x.tx]
def xM(w:World)(a:OA)(is:List T.F2):Prop:=Kv w a is T.P8 2 λw b o x=>Bc w b o (VZ x)
theorem yY(h:T.U5 w a is):xM w a is:=by
 rcases h with h|⟨b,off,h1,h2,d⟩
 ·exact .inl h
 refine .inr ⟨b,off,h1,h2,λi c q v e=>?_⟩
 match q,e with
 | 0,e=>cases e;exact(d i c).1
 | 1,e=>cases e;exact(d i c).2
theorem a1a(h:xM w a is):T.U5 w a is:=by
 rcases h with h|⟨b,off,h1,h2,d⟩
 ·exact .inl h
 exact .inr ⟨b,off,h1,h2,λi c=>⟨d i c 0 _ rfl,d i c 1 _ rfl⟩⟩
theorem c141(x:T.F2)(l:Int)(w:World)(h0:0<=l)(h1:l<=1048576)(a:x.le 9223372036854775807):
 Calls prog 141 #[.agg #[.string x.nm,.string x.tx],.int .i64 l] w λe w'=>(∃r:Int,e=.returned (.int .i64 r)/\(0<=r->x.le 1048576/\r<=l))/\Bw w w':=by
 obtain⟨s1,s2⟩:=a;by_cases h':l<x.nm.size
 ·go_in
  go_wp2;go_ret;exact⟨⟨-1,rfl,λh=>O0⟩,P6⟩
 by_cases h2:l-x.nm.size<x.tx.size
 ·go_in
  go_wp2;go_ret;exact⟨⟨-1,rfl,λh=>O0⟩,P6⟩
 go_in
 go_wp2;go_ret;exact⟨⟨_,rfl,λh=>⟨⟨O0,O0⟩,O0⟩⟩,P6⟩
theorem c82(a:OA)(B:Nat)(is:List T.F2)(l:Int)(w:World)(h0:0<=l)(h1:l<=1048576)(o:∀i,(is.getD i T.P8).le 9223372036854775807)(hl:is.length<=9223372036854775807)(q:xM w a is):
 Calls prog 82 #[.slice a is.length B,.int .i64 l] w λe w'=>(∃r:Int,e=.returned (.int .i64 r)/\(0<=r->is.length<=1048576/\(∀i,(is.getD i T.P8).le 1048576)/\r<=1048576))/\Bw w w':=by
 obtain⟨b,off,hc⟩:=J8 q;have E:=U0 hc;have D:=U0 o;clear hc q o;by_cases hbig:l<is.length
 ·go_in
  go_wp2;go_ret;exact⟨⟨-1,rfl,λh=>O0⟩,J4 _ _⟩
 go_in
 go_wp2;go_loopw[1,5] (λu i wr=>∃(k:Nat)(r:Int),k<=is.length/\i=.int .i64 k/\u=.int .i64 r/\0<=r/\r<=1048576/\Hid (∀i,i<k->(is.getD i T.P8).le 1048576)/\Below w.heap.size w wr) (λ_ i _=>is.length-(RowKit.intOf i).toNat);exact⟨0,_,I4 _,rfl,rfl,O0,O0,λi h=>absurd h (U7 _),J4 _ _⟩;obtain⟨k,r,hk,rfl,rfl,z,y,n,c⟩:=hrel;by_cases j:k<is.length;rotate_left
 ·have f:Hid (∀i,(is.getD i T.P8).le 1048576):=U0 (Oz (is:=is) (d:=T.P8) (R:=λx=>x.le 1048576) ⟨J6,J6⟩ (λi h=>n.out i O0));go_wp2;go_ret;exact⟨⟨r,rfl,λ_=>⟨O0,f.out,y⟩⟩,c⟩
 obtain⟨ha,p,m⟩:=Zb E.out j;subst ha;have g0:=((m k j).below p c) 0 _ rfl;have g1:=((m k j).below p c) 1 _ rfl;dsimp only[Nat.add_zero]at g0;have v:=D.out k;generalize hx:is.getD k T.P8=x at*;have C:=U0 hx;clear hx m
 go_wp2_with fail
 refine(c141 x r wr z O0 v).mono ?_;rintro e w1⟨⟨t,rfl,hr⟩,A⟩;have s:=P5 c A;by_cases hneg:t<0
 ·clear hr;go_wp2;go_ret;exact⟨⟨-1,rfl,λh=>O0⟩,s⟩
 have g:=hr O0;have f:Hid (∀i,i<k+1->(is.getD i T.P8).le 1048576):=by
  intro i h;rcases P7 i k with h1|h1
  ·exact n.out i h1
  obtain rfl:i=k:=O0;rw[C.out];exact g.1
 have hr2:=g.2;clear hr g;go_wp2;go_roundw;exact⟨k+1,_,O0,by go_num,rfl,O0,O0,f,s⟩;exact P9
theorem c29(a:OA)(b:Nat)(is:List T.F2)(l:Int)(w:World)(h0:0<=l)(h1:l<=1048576)(c:∀i,(is.getD i T.P8).le 9223372036854775807)(hl:is.length<=9223372036854775807)(f:T.U5 w a is):
 Calls prog 29 #[.agg #[.slice a is.length b],.int .i64 l] w λe w'=>(∃r:Int,e=.returned (.int .i64 r)/\(0<=r->is.length<=1048576/\(∀i,(is.getD i T.P8).le 1048576)/\r<=1048576))/\Bw w w':=by
 have hc:=c82 a b is l _ h0 h1 c hl (yY (T.X4 f (P6 (o:=.cells #[vL a is.length b] 27))));clear c f
 go_in
 go_wp2_with fail
 refine hc.mono ?_;rintro e w1⟨⟨r,rfl,hr⟩,d⟩;have j:=U0 hr;have g:=U0 (P5 P6 d);clear hc hr d;by_cases hn:r<0
 ·go_wp2;go_ret;exact⟨⟨-1,rfl,λh=>O0⟩,g.out⟩
 go_wp2;go_ret;exact⟨⟨_,rfl,j.out⟩,g.out⟩
def jI(is:List L4):List Value:=is.flatMap λx=>[.bool x.has,.string x.nm,.int .i64 x.cd,.string x.tx]
theorem tX(is:List L4):(jI is).length=is.length*4:=by
 induction is with
 | nil=>rfl
 | cons x is ih=>
  show([_,_,_,_]++jI is).length=_;rw[L9,ih];simp;omega
theorem QV(is:List L4):∀i,i<is.length->(jI is)[i*4]?=some (.bool (is.getD i l_).has)/\(jI is)[i*4+1]?=some (.string (is.getD i l_).nm)/\(jI is)[i*4+2]?=some (.int .i64 (is.getD i l_).cd)/\(jI is)[i*4+3]?=some (.string (is.getD i l_).tx):=by
 induction is with
 | nil=>intro i h;exact absurd h (U7 _)
 | cons x is ih=>
  intro i h
  cases i with
  | zero=>exact⟨rfl,rfl,rfl,rfl⟩
  | succ i=>
   have a:i<is.length:=by simpa using h
   have k:=ih i a;have e:∀j,(jI (x::is))[(i+1)*4+j]?=(jI is)[i*4+j]?:=λj=>by
    show([_,_,_,_]++jI is)[(i+1)*4+j]?=_;rw[rf X7]
    congr 1
    simp;omega
   have e0:=e 0;simp only[Iq]at e0;rw[e0,e 1,e 2,e 3];simpa using k
structure Qg(w:World)(B:Nat)(ao:OA)(is:List L4):Prop where
 at':X6 w ao is
 own:is=[]\/∃g,ao=some ⟨g,0,none⟩/\B<=g/\ZA w g is.length
theorem YK{v:Value}{is:List L4}(h:w.ownsRow B 201 4 v n (jI is))(f:n=is.length):∃ao c,v=.slice ao n c/\Qg w B ao is:=by
 subst f;have a:=h;obtain⟨h1,h2⟩:=h;rcases h2 with⟨rfl,h0⟩|⟨g,p,cur,rfl,o,m,_⟩
 ·have e:=La.1 h0;subst e;exact⟨none,0,rfl,.inl rfl,.inl rfl⟩
 have b:=Xf m;refine⟨some (aA g 0),p,rfl,.inr ⟨g,0,rfl,b,λi l=>?_⟩,.inr ⟨g,rfl,o,b,λj d=>?_,λj=>a.frozenAt j⟩⟩
 ·have k:=QV is i l;simp only[l7];rw[a.cellAt _ O0,a.cellAt _ O0,a.cellAt _ O0,a.cellAt _ O0];exact k
 rw[a.cellAt j d];have:j<(jI is).length:=by rw[tX];exact d
 exact⟨_,D9 this⟩
theorem Qg.mono{B':Nat}{ao:OA}{is:List L4}(h:Qg w B ao is)(hB:B'<=B):Qg w B' ao is:=
 ⟨h.at',h.own.imp id λ⟨g,h1,h2,a⟩=>⟨g,h1,Q8 hB h2,a⟩⟩
structure TB(w:World)(ta tr:TypeId)(ar zs xs:List Value)(P:World->Prop)(V:World):Prop where
 bel:Bw w V
 sz:w.heap.size+3<=V.heap.size
 ca:Cl V w.heap.size ta ar
 cr:Cl V (w.heap.size+1) tr zs
 co:Cl V (w.heap.size+1+1) tr xs
 kp:Kp (w.heap.size+3) V P
section
variable{w V V1:World}{ta tr:TypeId}{ar zs xs xs':List Value}{P Q:World->Prop}
theorem Za:TB w ta tr ar zs zs (λ_=>True) (((w.alloc (.cells ar.toArray ta)).alloc (.cells zs.toArray tr)).alloc (.cells zs.toArray tr)):=
 ⟨(P6.alloc O4 _).alloc X7 _,O4,G8 (G8 (U3 w ar ta) _) _,G8 (by have h:=U3 (w.alloc (.cells ar.toArray ta)) zs tr;simpa using h) _,by have h:=U3 ((w.alloc (.cells ar.toArray ta)).alloc (.cells zs.toArray tr)) zs tr;simpa using h,λ_ _ _=>trivial⟩
theorem TB.put(h:TB w ta tr ar zs xs P V)(j:Nat)(v:Value):TB w ta tr ar zs (xs.set j v) P (V.setCell ⟨w.heap.size+1+1,j,none⟩ v):=
 have o:=Tc V (w.heap.size+1+1) j v
 ⟨h.bel.trans (o.below O0),by have:=h.sz;have:=o.size;omega,h.ca.on o O0,h.cr.on o O0,h.co.set j v,h.kp.on o O0⟩
theorem TB.on(h:TB w ta tr ar zs xs P V)(o:Wx (w.heap.size+1+1) V V1)(c:Cl V1 (w.heap.size+1+1) tr xs'):TB w ta tr ar zs xs' P V1:=
 ⟨h.bel.trans (o.below O0),by have:=h.sz;have:=o.size;omega,h.ca.on o O0,h.cr.on o O0,c,h.kp.on o O0⟩
theorem TB.call(h:TB w ta tr ar zs xs P V)(a:Bw V V1)(b:Kp V.heap.size V1 Q):TB w ta tr ar zs xs (λu=>P u/\Q u) V1:=
 ⟨P5 h.bel a,Q8 h.sz a.size,h.ca.below a h.ca.lt,h.cr.below a h.cr.lt,h.co.below a h.co.lt,λu h1 h2=>⟨h.kp.below a u h1 h2,b.low h.sz u h1 h2⟩⟩
theorem TB.end_{z:World}(h:TB w ta tr ar zs xs P V)(o:Wx (w.heap.size+1) V z):Kp w.heap.size z P/\Bw w z:=⟨(h.kp.on o O0).low O0,h.bel.trans (o.below O0)⟩
