import Derived.Test.YtdgneicbmalnpaaGreatDooreZB
import Derived.Test.YtdgneicbmalnpaaGreatDooryA
import Derived.Maps.OwnIn
set_option linter.all false
set_option maxHeartbeats 0
set_option maxRecDepth 99999
open Go.Value renaming slice->Sa,string->Sb,int->Sc,pointer->Sd
open Go.IntKind renaming i64->Se
open Go.Ending renaming returned->Sf
open Go.Obj renaming cells->Sg
namespace Go.Proofs.YtdgneicbmalnpaaGreatDoor
open Proofs.Tryz Go.RowKit Go.Maps
variable{l pl:List (ByteArray×Value)}{ts:LB}{B H S X b bP bR bT base c c2 e j k n size:Nat}{W W' f u w w':World}{rs:List R3}{rv xs:List Value}{gs:List G3}{a a2:OA}{v:Value}{row:Option Nat}{W0:Int}
theorem a2L{x:BY}{c:Int}{u:List UInt8}(w:World)(hs:x.size<=1048700)(hm:Vd w)(h:ZF x.data.toList c u true):
 Calls prog 214 #[Sb x] w λe w'=>e=Sf (.tuple #[.agg #[Sc Se (hC x),Sb (hT x)],.bool true])/\Bw w w':=by
 have a:=a6D x.data.toList w (by simpa using hs) hm;rw[Pq]at a;refine a.mono ?_;rintro e w'⟨⟨c',t',ok,rfl,hr,_⟩,d⟩;obtain⟨rfl,rfl,rfl⟩:=iM hr h;obtain⟨e1,b⟩:=JL h;rw[Pq]at e1 b;exact⟨by rw[e1,b],d⟩
theorem Ew{x:BY×Value}(h:∀p∈l,Bj p.1 x.1=true):Yg x l=l++[x]:=by
 induction l with
 | nil=>rfl
 | cons y r ih=>
  unfold Yg;have a:=h y (Gt ..);have:Bj x.1 y.1=false:=by
   cases hq:Bj x.1 y.1 with
   | false=>rfl
   | true=>have:=Vx a hq;rw[Eh]at this;cases this
  rw[this,ih (λp b=>h p (Ug _ b))];simp
theorem TN(h:k<ts.length):ts.take (k+1)=ts.take k++[ts.getD k ByteArray.empty]:=by
 rw[Oq,V8 h];simp[List.getD,V8 h]
theorem jD{W:Int}(h:Ol W ts)(k:Nat):Ol W (ts.take k):=by
 unfold Ol Asc at h ⊢;rw[List.map_take];exact h.sublist (List.take_sublist _ _)
theorem qU{W:Int}(h:Ol W ts){k:Nat}(hk:k<ts.length):(mapD ((ts.take k).map (gT W))).put (kS (Y6 (ts.getD k ByteArray.empty) W)) (.held (hV (ts.getD k ByteArray.empty)))=mapD ((ts.take (k+1)).map (gT W)):=by
 have hA:=jD h (k+1);rw[TN hk]at hA ⊢;unfold Ol Asc at hA;rw[Nl,List.pairwise_append]at hA;have b:∀p∈(ts.take k).map (gT W),Bj p.1 (Y6 (ts.getD k ByteArray.empty) W)=true:=λp a=>hA.2.2 p a (gT W (ts.getD k ByteArray.empty)) J4;rw[pq _ (Za.2 (λp a e=>by have:=b p a;rw[e,Eh]at this;cases this))];rw[Ew (x:=(Y6 (ts.getD k ByteArray.empty) W,hV (ts.getD k ByteArray.empty))) b,Nl];rfl
theorem ShR.a1h{W:Int}(h:ShR B rs rv pl w)(b:w.grownBy w' (some bT))(hC:JC B H bT bR bP W l rv pl w):ShR B rs rv pl w':=by
 obtain⟨es,ck,a⟩:=Ic hC.tx;exact h.map b hC.hT a
theorem a1J{o:Nat}{x:R3}(h:KD w b o x)(d:Bw w w')(e:b<w.heap.size):∃c a,w'.cell? ⟨b,o,none⟩=some (Sb x.key)/\w'.cell? ⟨b,o+1,none⟩=some (Sa c x.gs.length a)/\w'.cell? ⟨b,o+2,none⟩=some (Sb x.o)/\LC w.heap.size w' (.agg #[Sb x.key,Sa c x.gs.length a,Sb x.o]) x:=by
 obtain⟨c,a,h0,h1,h2,f⟩:=h;refine⟨c,a,(d.cell (by exact e)).trans h0,(d.cell (by exact e)).trans h1,(d.cell (by exact e)).trans h2,c,a,rfl,y9 f d,?_⟩;rcases f with h|⟨b',off,ha,hl,_⟩
 ·exact .inl h
 exact .inr ⟨b',off,ha,.inl hl⟩
theorem IQ(h:k<rs.length):rs.take (k+1)=rs.take k++[rs.getD k d_]:=by
 rw[Oq,V8 h];simp[List.getD,V8 h]
theorem Sh.below{W:Int}(h:Sh B H bT bR bP W l rs rv w)(a:Bw w w'):Sh B H bT bR bP W l rs rv w':=by
 obtain⟨pl,h1,h2⟩:=h;exact⟨pl,h1.below a,h2.below a⟩
def a5g(s:St)(w w':World)(e:Ending):Prop:=∃H bT bR bP rv,e=Sf (Sd (some ⟨H,0,none⟩))/\Sh w.heap.size H bT bR bP s.wd (s.ts.map (gT s.wd)) s.rs rv w'
theorem c162(s:St)(ta ra:OA)(tc rc:Nat)(w:World)(f:Lh s)(hs:s.le 1048576)(O:xh w ta ra s)(hm:Vd w):
 Calls prog 162 #[.agg #[Sc Se s.wd,Sa ta s.ts.length tc,Sa ra s.rs.length rc]] w λe w'=>a5g s w w' e/\Bw w w':=by
 have hm0:=hm.1;have Y:=U0 (Vr f);have HT:=U0 f.2.1.2;have htl:=f.2.1.1;have X:=U0 f.1;have hrl:=f.2.2.1;have HRO:=U0 f.2.2.2;have HSZ:=U0 hs.1.2;have HM:=U0 hm;obtain⟨b,off,hc⟩:=Aa O.1;have HC:=U0 hc;have HR:=U0 O.2;have hmm:=@run_makeMap prog;have sz4:(((((w.alloc (Sg #[vI s.wd,vL ta s.ts.length tc,vL ra s.rs.length rc] 43)).alloc (.map #[] 0)).alloc (.map #[] 0)).alloc (.map #[] 0)).alloc (Sg #[vI s.wd,.map (some (w.heap.size+1)),.map (some (w.heap.size+2)),.map (some (w.heap.size+3))] 294)).heap.size=w.heap.size+5:=J4;have B0:Bw w (((((w.alloc (Sg #[vI s.wd,vL ta s.ts.length tc,vL ra s.rs.length rc] 43)).alloc (.map #[] 0)).alloc (.map #[] 0)).alloc (.map #[] 0)).alloc (Sg #[vI s.wd,.map (some (w.heap.size+1)),.map (some (w.heap.size+2)),.map (some (w.heap.size+3))] 294)):=(((U6.alloc J4 _).alloc L8 _).alloc L8 _).alloc L8 _;have s0:(w.alloc (Sg #[vI s.wd,vL ta s.ts.length tc,vL ra s.rs.length rc] 43)).heap.size=w.heap.size+1:=J4;have s1:((w.alloc (Sg #[vI s.wd,vL ta s.ts.length tc,vL ra s.rs.length rc] 43)).alloc (.map #[] 0)).heap.size=w.heap.size+2:=J4;have s2:(((w.alloc (Sg #[vI s.wd,vL ta s.ts.length tc,vL ra s.rs.length rc] 43)).alloc (.map #[] 0)).alloc (.map #[] 0)).heap.size=w.heap.size+3:=J4;have s3:((((w.alloc (Sg #[vI s.wd,vL ta s.ts.length tc,vL ra s.rs.length rc] 43)).alloc (.map #[] 0)).alloc (.map #[] 0)).alloc (.map #[] 0)).heap.size=w.heap.size+4:=J4;have m1:=World.ownsMap_made (w.alloc (Sg #[vI s.wd,vL ta s.ts.length tc,vL ra s.rs.length rc] 43)) prog 9 h_;have m2:=World.ownsMap_made ((w.alloc (Sg #[vI s.wd,vL ta s.ts.length tc,vL ra s.rs.length rc] 43)).alloc (.map #[] 0)) prog 3 h_;have J:=World.ownsMap_made (((w.alloc (Sg #[vI s.wd,vL ta s.ts.length tc,vL ra s.rs.length rc] 43)).alloc (.map #[] 0)).alloc (.map #[] 0)) prog 9 h_;have R:=X9 ((((w.alloc (Sg #[vI s.wd,vL ta s.ts.length tc,vL ra s.rs.length rc] 43)).alloc (.map #[] 0)).alloc (.map #[] 0)).alloc (.map #[] 0)) [vI s.wd,.map (some (w.heap.size+1)),.map (some (w.heap.size+2)),.map (some (w.heap.size+3))] 294;have F:=zM ((((w.alloc (Sg #[vI s.wd,vL ta s.ts.length tc,vL ra s.rs.length rc] 43)).alloc (.map #[] 0)).alloc (.map #[] 0)).alloc (.map #[] 0)) #[vI s.wd,.map (some (w.heap.size+1)),.map (some (w.heap.size+2)),.map (some (w.heap.size+3))] 294;rw[s0]at m1;rw[s1]at m2;rw[s2]at J;rw[s3]at R F;have C0:Hid (JC w.heap.size (w.heap.size+4) (w.heap.size+1) (w.heap.size+2) (w.heap.size+3) s.wd ((s.ts.take 0).map (gT s.wd)) [] [] (((((w.alloc (Sg #[vI s.wd,vL ta s.ts.length tc,vL ra s.rs.length rc] 43)).alloc (.map #[] 0)).alloc (.map #[] 0)).alloc (.map #[] 0)).alloc (Sg #[vI s.wd,.map (some (w.heap.size+1)),.map (some (w.heap.size+2)),.map (some (w.heap.size+3))] 294))):=U0 ⟨O0,O0,O0,O0,O0,O0,O0,O0,R,(m1.alloc _).alloc _ |>.alloc _,List.Pairwise.nil,(m2.alloc _).alloc _,J.alloc _,List.Pairwise.nil,F⟩;have R0:Hid (ShR w.heap.size [] [] [] (((((w.alloc (Sg #[vI s.wd,vL ta s.ts.length tc,vL ra s.rs.length rc] 43)).alloc (.map #[] 0)).alloc (.map #[] 0)).alloc (.map #[] 0)).alloc (Sg #[vI s.wd,.map (some (w.heap.size+1)),.map (some (w.heap.size+2)),.map (some (w.heap.size+3))] 294))):=U0 ⟨rfl,λi h=>absurd h (U8 _),λk v e=>by simp[Y_]at e,λk _=>rfl,λk k' v v' _ e=>by simp[Y_]at e,Y7 _⟩;have D:Hid (J6 (((((w.alloc (Sg #[vI s.wd,vL ta s.ts.length tc,vL ra s.rs.length rc] 43)).alloc (.map #[] 0)).alloc (.map #[] 0)).alloc (.map #[] 0)).alloc (Sg #[vI s.wd,.map (some (w.heap.size+1)),.map (some (w.heap.size+2)),.map (some (w.heap.size+3))] 294)) w.heap.size [vI s.wd,vL ta s.ts.length tc,vL ra s.rs.length rc]):=U0 ((X9 w [vI s.wd,vL ta s.ts.length tc,vL ra s.rs.length rc] 43).below (N:=w.heap.size+1) (((((O4 _ _).alloc J4 _).alloc J4 _).alloc J4 _).alloc J4 _) O0);have y0:=D.o 0 _ rfl;have y1:=D.o 1 _ rfl
 go_in
 go_wp2_with fail
 generalize (((((w.alloc (Sg #[vI s.wd,vL ta s.ts.length tc,vL ra s.rs.length rc] 43)).alloc (.map #[] 0)).alloc (.map #[] 0)).alloc (.map #[] 0)).alloc (Sg #[vI s.wd,.map (some (w.heap.size+1)),.map (some (w.heap.size+2)),.map (some (w.heap.size+3))] 294))=U4 at*;go_loopw[20] (λi wr=>∃(k:Nat),k<=s.ts.length/\i=Sc Se k/\Hid (JC w.heap.size (w.heap.size+4) (w.heap.size+1) (w.heap.size+2) (w.heap.size+3) s.wd ((s.ts.take k).map (gT s.wd)) [] [] wr)/\Hid (ShR w.heap.size [] [] [] wr)/\Hid (J6 wr w.heap.size [Sc Se s.wd,Sa ta s.ts.length tc,Sa ra s.rs.length rc])/\Below w.heap.size w wr/\w.heap.size+5<=wr.heap.size) (λi _=>s.ts.length-(Go.RowKit.intOf i).toNat);exact⟨0,Y4 _,rfl,C0,R0,D,B0,O0⟩;obtain⟨k,hk,rfl,Z,W,U,p,szr⟩:=hrel;by_cases a:k<s.ts.length
 ·obtain⟨ha,hbw,hcell⟩:=Ud HC.o a;subst ha;have g0:=(p.cell (by exact hbw)).trans (hcell k a);obtain⟨cc,tt,hI⟩:=(HT.o k a).1;have hxs:=HSZ.o k;have a8j:=U0 (qU Y a);have a8k:=U0 (jD Y (k+1));have HNL:Hid (((s.ts.take k).map (gT s.wd)).length<maxLen):=by show _<_;simp;unfold maxLen;omega
  have HKM:Hid ((Y6 (s.ts.getD k ByteArray.empty) s.wd).size<=maxLen):=by show _<=_;have:=Es (s:=s.ts.getD k ByteArray.empty) X.o;have:=X.o;unfold maxLen;omega
  generalize hx:s.ts.getD k ByteArray.empty=x at*;have L:x.size<=1048700:=O0;have h57:=a2L wr L (S9 HM p) hI
  go_wp2_with fail
  refine h57.mono ?_;rintro e u1⟨rfl,t⟩;have su1:=t.size;have BA:Bw w (u1.alloc (Sg #[vI (hC x),vS (hT x)] 117)):=(p.trans (t.mono O0)).alloc O0 _;have B:Bw wr (u1.alloc (Sg #[vI (hC x),vS (hT x)] 117)):=t.alloc su1 _;have E:=U0 (Z.o.below B);have RA:=U0 (W.o.below B);have yx:=U0 (U.o.below B O0);have r:=U0 (X9 u1 [vI (hC x),vS (hT x)] 117);have szA:(u1.alloc (Sg #[vI (hC x),vS (hT x)] 117)).heap.size=u1.heap.size+1:=J4;have hD:u1.heap.size<(u1.alloc (Sg #[vI (hC x),vS (hT x)] 117)).heap.size:=O0
  go_wp2_with fail
  generalize (u1.alloc (Sg #[vI (hC x),vS (hT x)] 117))=q at*;have f0:=E.o.blk 0 _ rfl;have f1:=E.o.blk 1 _ rfl;have Q:=r.o 0 _ rfl;have P:=r.o 1 _ rfl;refine wp_region_held_drew (S:=(λu=>u.cell? (aA (w.heap.size+4) 0)=some (vI s.wd)/\u.cell? (aA (w.heap.size+4) 1)=some (.map (some (w.heap.size+1)))/\u.cell? (aW u1 0)=some (vI (hC x))/\u.cell? (aW u1 1)=some (vS (hT x)))) Y0 ?_ λhHeld=>?_
  ·exact⟨f0,f1,Q,P⟩
  refine y_ 0 ?_;refine y_ 1 ?_;refine y_ 2 ?_;refine y_ 3 ?_;refine y_ 4 ?_;refine y_ 5 ?_;refine y_ 6 ?_;refine y_ 7 ?_;refine y_ 8 ?_;refine y_ 10 ?_;refine y_ 11 ?_;refine y_ 12 ?_;refine rq 9 λK y=>?_;go_simp;refine(uJ x s.wd _ L).mono ?_;rintro e v1⟨rfl,hbv⟩
  go_wp2_with fail
  have c:Bw q v1:=((O4 _ _).drew).trans hbv;have sv1:=c.size;have m:=U0 (E.o.below c);have RV:=U0 (RA.o.below c);have BV:=BA.trans (c.mono O0);have h0:=m.o.blk 0 _ rfl;have h1:=m.o.blk 1 _ rfl;have w0:=(c.cell (by exact(show u1.heap.size<q.heap.size by omega))).trans Q;have w1:=(c.cell (by exact(show u1.heap.size<q.heap.size by omega))).trans P;have yb:=U0 (yx.o.below c O0);have H:=U0 (r.o.below c O0);refine G9 y ⟨h0,h1,w0,w1⟩ λhHeld=>?_;refine rq 13 λK y=>?_;refine Np (l:=(s.ts.take k).map (gT s.wd)) (k:=Y6 x s.wd) (vv:=hV x) rfl 290 (.tmp 32) (.tmp 38) (.tmp 41) rfl rfl rfl rfl m.o.tx underlying290 HNL HKM rfl ?_;intro v2 g d;rw[a8j.o]at g
  replace g:=Wj g
  rw[O_]at g;have n:=U0 (m.o.upT d g a8k);have R2:=U0 (RV.o.a1h d m);have B2:=BV.trans (m_ d (λj e=>by cases e;omega) O0);have sv2:=d.size;have neT:some w.heap.size≠some (w.heap.size+1):=λe=>by have:=C_ e;omega
  have y2:=U0 (Qb yb d O0 neT);have j0:=n.o.blk 0 _ rfl;have j1:=n.o.blk 1 _ rfl;have I:some u1.heap.size≠some (w.heap.size+1):=λe=>by have:=C_ e;omega
  have z0:=(Qb (vs:=[vI (hC x),vS (hT x)]) H d O0 I) 0 _ rfl;have z1:=(Qb (vs:=[vI (hC x),vS (hT x)]) H d O0 I) 1 _ rfl;refine G9 y ⟨j0,j1,z0,z1⟩ λhHeld=>?_;refine wdn ?_;go_wp2;go_roundw;exact⟨k+1,O0,by go_num,n,R2,y2,B2,O0⟩;exact V9
 obtain rfl:k=s.ts.length:=O0;have n:Hid (JC w.heap.size (w.heap.size+4) (w.heap.size+1) (w.heap.size+2) (w.heap.size+3) s.wd (s.ts.map (gT s.wd)) [] [] wr):=by have h:=Z.o;rw[Xt]at h;exact h
 have z2:=U.o 2 _ rfl;have S2:Hid (Sh w.heap.size (w.heap.size+4) (w.heap.size+1) (w.heap.size+2) (w.heap.size+3) s.wd (s.ts.map (gT s.wd)) (s.rs.take 0) [] wr):=⟨[],n,W⟩;go_wp2;go_loopw[46] (λi wr=>∃(k:Nat)(rv:List Value),k<=s.rs.length/\i=Sc Se k/\Hid (Sh w.heap.size (w.heap.size+4) (w.heap.size+1) (w.heap.size+2) (w.heap.size+3) s.wd (s.ts.map (gT s.wd)) (s.rs.take k) rv wr)/\Below w.heap.size w wr) (λi _=>s.rs.length-(Go.RowKit.intOf i).toNat);exact⟨0,[],Y4 _,rfl,S2,p⟩;obtain⟨k,rv,hk,rfl,V,o⟩:=hrel;by_cases a:k<s.rs.length
 ·obtain⟨rb,ro,hra,hrb,hrec⟩:=Ud HR.o a;subst hra;obtain⟨C,z,r0,r1,r2,hV⟩:=a1J (hrec k a) o hrb;have HTK:=U0 (IQ a);have hkey:(s.rs.getD k d_).key.size<=1048700:=by have:=(HRO.o k a).1.1;omega
  have htk:(s.rs.take k).length<=1000:=L8;generalize s.rs.getD k d_=x at*;have A:Bw wr (wr.alloc (Sg #[vS x.key,vL C x.gs.length z,vS x.o] 179)):=U6;have S4:=U0 (V.o.below A);have V4:=hV.kept (Yd A) (λ_ e=>by cases e);have h59:=a3s _ _ _ _ _ _ _ _ _ x C z _ S4 V4 htk hkey;have hZq:=o.size
  go_wp2_with fail
  refine h59.mono ?_;rintro e u5⟨rfl,S5,B5,_⟩;have S6:Hid (Sh w.heap.size (w.heap.size+4) (w.heap.size+1) (w.heap.size+2) (w.heap.size+3) s.wd (s.ts.map (gT s.wd)) (s.rs.take (k+1)) (rv++[.agg #[vS x.key,vL C x.gs.length z,vS x.o]]) u5):=by show Sh _ _ _ _ _ _ _ _ _ _;rw[HTK.o];exact S5
  have B6:=(o.trans (A.mono hZq)).trans B5;go_wp2;go_roundw;exact⟨k+1,_,O0,by go_num,S6,B6⟩;exact V9
 obtain rfl:k=s.rs.length:=O0;have S7:Hid (Sh w.heap.size (w.heap.size+4) (w.heap.size+1) (w.heap.size+2) (w.heap.size+3) s.wd (s.ts.map (gT s.wd)) s.rs rv wr):=by have h:=V.o;rw[Xt]at h;exact h
 go_wp2;go_ret;exact⟨⟨_,_,_,_,rv,rfl,S7⟩,o⟩
open Go.RowKit Go.Maps Go.Sort Go.Shelf
attribute [local go_sem] Oper.semAt_some
theorem c222(a:Option Nat)(n:Nat)(w:World):CallsIn Fence.wide n prog 222 #[.map a] w λe w'=>e=Sf (.func (.func 270) #[] #[Sd (some ⟨w.heap.size,0,none⟩)])/\w'=w.alloc (Sg #[.map a] 290):=by
 refine callsIn_of_wp func222 rfl trivial ?_ rfl;simp only[ntmps222,Wp,f_,Fb,Nat.reduceAdd,Nat.reduceSub,Lp,Qq,Hr,Iq,Y9,jd]
 gi_wp2
 go_ret;exact⟨rfl,rfl⟩
theorem a5a(a:Option Nat)(n:Nat)(w:World):CallsIn Fence.wide n prog 223 #[.map a] w λe w'=>e=Sf (.func (.func 272) #[] #[Sd (some ⟨w.heap.size,0,none⟩)])/\w'=w.alloc (Sg #[.map a] 291):=by
 refine callsIn_of_wp func223 rfl trivial ?_ rfl;simp only[ntmps223,Wp,f_,Fb,Nat.reduceAdd,Nat.reduceSub,Lp,Qq,Hr,Iq,Y9,jd]
 gi_wp2
 go_ret;exact⟨rfl,rfl⟩
def gC(gs:List G3):List Value:=gs.flatMap λg=>[.bool g.nm,Sb g.tl,Sb g.ar]
theorem iU(gs:List G3):(gC gs).length=gs.length*3:=by
 induction gs with
 | nil=>rfl
 | cons x r ih=>simp only[gC,Xf,Q9]at ih ⊢;rw[ih];simp;omega
theorem wV(gs:List G3):∀u∈gC gs,u.oneCell'=true:=λu a=>by
 obtain⟨g,_,h⟩:=Ox.1 a;simp at h;rcases h with rfl|rfl|rfl<;>rfl
theorem a0d(gs:List G3):∀k,k<gs.length->(gC gs)[k*3]?=some (.bool (gs.getD k Jh).nm)/\(gC gs)[k*3+1]?=some (Sb (gs.getD k Jh).tl)/\(gC gs)[k*3+2]?=some (Sb (gs.getD k Jh).ar):=by
 induction gs with
 | nil=>intro k hk;exact absurd hk (U8 _)
 | cons x r ih=>
  intro k hk
  cases k with
  | zero=>exact⟨rfl,rfl,rfl⟩
  | succ k=>
   have:=ih k (by simpa using hk);have e1:(k+1)*3=k*3+1+1+1:=O0;rw[e1];exact this
theorem a1F{off:Nat}(h:∀i,i<gs.length->w.cell? ⟨b,off+i*3,none⟩=some (.bool (gs.getD i Jh).nm)/\w.cell? ⟨b,off+i*3+1,none⟩=some (Sb (gs.getD i Jh).tl)/\w.cell? ⟨b,off+i*3+2,none⟩=some (Sb (gs.getD i Jh).ar)):∀j v,(gC gs)[j]?=some v->w.cell? ((⟨b,off,none⟩:Addr).add j)=some v:=by
 intro j v a;rw[Jl];have hlt:j<gs.length*3:=by rw[<- iU];exact(ah.1 a).1
 obtain⟨q,hq⟩:∃q,j / 3=q:=⟨_,rfl⟩;have hk:q<gs.length:=O0;obtain⟨c,a1,a2⟩:=a0d gs q hk;obtain⟨b0,g,f⟩:=h q hk;have d:j=q*3\/j=q*3+1\/j=q*3+2:=O0;rcases d with e|e|e
 ·subst e;rw[a]at c;cases c;exact b0
 ·subst e;rw[a]at a1;cases a1;exact g
 subst e;rw[a]at a2;cases a2;exact f
theorem bV:(prog.info? 235).map (λi=>(i.zero,i.size,i.bytes))=some (some (.agg #[.bool false,Sb ⟨#[]⟩,Sb ⟨#[]⟩]),3,40):=Y0
theorem yN(h:w.ownsRow base 235 3 (Sa a gs.length c) gs.length (gC gs)):R_ w a gs:=by
 have b:=h;rcases h.2 with⟨hv,h0⟩|⟨g,cap,cur,hv,hg,d,_⟩
 ·exact .inl (Xb.1 h0)
 simp only[Hu]at hv;obtain⟨rfl,_,rfl⟩:=hv;refine .inr ⟨g,0,rfl,(Ya.1 d).1,λk hk=>?_⟩;obtain⟨e,a1,a2⟩:=a0d gs k hk;refine⟨?_,?_,?_⟩
 ·rw[Y8,b.cellAt (k*3) O0];exact e
 ·rw[Y8,b.cellAt (k*3+1) O0];exact a1
 rw[Y8,b.cellAt (k*3+2) O0];exact a2
theorem eP(b:Addr)(c:Nat)(gs:List G3)(w:World)(hl:gs.length<=1048576)(f:∀u,Bw w u->∀j v,(gC gs)[j]?=some v->u.cell? (b.add j)=some v):
 Calls prog 224 #[Sa (some b) gs.length c] w λe w'=>(∃d a,e=Sf (Sa d gs.length a)/\w'.ownsRow w.heap.size 235 3 (Sa d gs.length a) gs.length (gC gs))/\Bw w w':=by
 obtain⟨l,q,o,n,m⟩:=info_parts' bV;have hnil:∀u,(binOp .eql 177 (vL (some b) gs.length c) vN).run prog u=.ok (.bool false) u:=λu=>Y0;have t:=U0 f;clear f
 go_in
 have p:=trivial
 go_wp2_with(refine wB rfl (.tmp 5) (.tmp 6) 177 rfl w.heap.size 235 l (.agg #[.bool false,Sb ⟨#[]⟩,Sb ⟨#[]⟩]) 3 40 underlying177 q o n m rfl U5 _ _ _ rfl ((World.ownsRow_made w #[] 0 A8 (Nat.zero_le _) rfl)) b gs.length c (gC gs) rfl (iU gs) (t.o _ U6) (wV gs) (by unfold maxLen;omega) O0 J4 ?_;revert p)
 intro v' w2 g r;obtain⟨d,a,rfl⟩:=x9 g;have s:=U6.grown r J4 (λk h=>by have i:some w.heap.size=some k:=h;injection i with i;omega);go_wp2;go_ret;exact⟨⟨d,a,rfl,g⟩,s⟩
theorem zO(c:Nat)(w:World):
 Calls prog 224 #[Sa none 0 c] w λe w'=>e=Sf (Sa none 0 0)/\Bw w w':=by
 have hnil:∀u,(binOp .eql 177 (vL none 0 c) vN).run prog u=.ok (.bool true) u:=λu=>Y0
 go_in
 go_wp2;go_ret;exact⟨rfl,O4 _ _⟩
theorem a2K(a:OA)(c:Nat)(gs:List G3)(w:World)(hl:gs.length<=1048576)(k:R_ w a gs):
 Calls prog 224 #[Sa a gs.length c] w λe w'=>(∃m l,e=Sf (Sa m gs.length l)/\w'.ownsRow w.heap.size 235 3 (Sa m gs.length l) gs.length (gC gs))/\Bw w w':=by
 cases a with
 | none=>
  rcases k with rfl|⟨b,off,h,_⟩
  ·refine(zO c w).mono ?_;rintro e w'⟨rfl,o⟩;exact⟨⟨none,0,rfl,M_ _ _ _ _⟩,o⟩
  cases h
 | some ad=>
  refine eP ad c gs w hl λu d=>?_;rcases k with rfl|⟨b,off,h,f,hc⟩
  ·intro j v n;simp[gC]at n
  cases h
  exact a1F (λi g=>⟨(d.cell (by exact f)).trans (hc i g).1,(d.cell (by exact f)).trans (hc i g).2.1,(d.cell (by exact f)).trans (hc i g).2.2⟩)
attribute [local go_sem] Oper.semAt_some
def nM(ts:LB)(n:Nat)(i:Fin n):BY:=ts.getD i.1 ByteArray.empty
def Fz(rs:List R3)(n:Nat)(i:Fin n):R3:=rs.getD i.1 d_
theorem X6(h:W.ownsRow base e size v n xs){k:Nat}(hk:v.ownBlock=some k):oh W k e:=by
 rcases h.2 with⟨hv,_⟩|⟨g,cap,cur,hv,hg,a,_⟩
 ·subst hv;simp[Value.ownBlock]at hk
 subst hv;simp[Value.ownBlock]at hk;subst hk;exact⟨cur,(0,0),a⟩
theorem dN{t:TypeId}(h:oh W b t)(hr:∀r,row=some r->∃o:Obj,W.heap[r]?=some o/\o.isCells=false):some b≠row:=λe=>by
 obtain⟨o,ho,hc⟩:=hr b e.symm;obtain⟨cur,fr,h⟩:=h;rw[h]at ho;cases ho;cases hc
theorem Cl.t{t:TypeId}(h:Cl W b t xs):oh W b t:=⟨_,_,h⟩
theorem Cl.gr{t:TypeId}(h:Cl W b t xs)(c:W.grownBy W' row)(a:some b≠row):Cl W' b t xs:=(c.block b h.lt a).trans h
theorem Cl.nc{t:TypeId}(h:Cl W b t xs)(a:W.grownBy W' row)(hr:∀r,row=some r->∃o:Obj,W.heap[r]?=some o/\o.isCells=false):Cl W' b t xs:=h.gr a (dN h.t hr)
theorem Dl(b:W.heap.size<=W'.heap.size)(c:∀k,k<W.heap.size->k≠S->fB W S j≠some k->¬oh W k X->W'.heap[k]?=W.heap[k]?){t:TypeId}(n:oh W S t)(f:∀q,fB W S j=some q->∃t,oh W q t)(l:fB W' S j=fB W S j\/∃q,fB W' S j=some q/\W.heap.size<=q):KeepsFrom B W W'/\Ar S j X W W':=by
 have a:∀k t o,oh W k t->W.heap[k]?=some o->o.isCells=true:=λk t o ⟨cur,fr,h⟩ ho=>by
  rw[h]at ho;cases ho;rfl
 refine⟨⟨b,λk o _ ho hc=>?_⟩,⟨b,λk o ho _ m i g=>(c k (Ya.1 ho).1 i g λ⟨cur,fr,e⟩=>m cur fr (C_ (ho.symm.trans e))).trans ho,l⟩⟩;refine(c k (Ya.1 ho).1 (λe=>?_) (λe=>?_) (λe=>?_)).trans ho
 ·rw[a k t o (e▸n) ho]at hc;cases hc
 ·obtain⟨d,h⟩:=f k e;rw[a k d o h ho]at hc;cases hc
 rw[a k X o e ho]at hc;cases hc
theorem Nz(hS:S<w.heap.size):∀(W:World)(l:Nat)(o a:Obj),w.heap.size<=l->W.heap[l]?=some o->o.isCells=false->o.isWalk=false->Ar S j X W (W.putObj l a):=λW l o a hl ho hc hw=>by
 refine⟨J4,λk q b c _ _ _=>?_,.inl ?_⟩
 ·refine(World.putObj_heap_other (λe=>?_)).trans b;subst e;rw[ho]at b;cases b;rcases c with h|h
  ·rw[hc]at h;cases h
  rw[hw]at h;cases h
 unfold fB;have e:(W.putObj l a).heap[S]?=W.heap[S]?:=World.putObj_heap_other O0;simp only[World.cell?,e]
theorem Tf(h:W.ownsRow base e size v n xs)(a:W.grownBy W' row)(hr:∀r,row=some r->∃o:Obj,W.heap[r]?=some o/\o.isCells=false):W'.ownsRow base e size v n xs:=by
 refine h.kept a ?_
 cases hq:v.ownBlock with
 | none=>exact .inl rfl
 | some k=>exact .inr (dN (X6 h hq) hr)
theorem AQ:(prog.info? 179).map (λi=>(i.zero,i.size,i.bytes))=some (some (.agg #[Sb ⟨#[]⟩,Sa none 0 0,Sb ⟨#[]⟩]),3,56):=Y0
theorem Gx(S j X:Nat)(b:S<W.heap.size)(o:Obj):Ar S j X W (W.alloc o):=
 ⟨J4,λk q a _ _ _ _=>(Ip _ _ k (Ya.1 a).1).trans a,.inl (by
  unfold fB;simp only[World.cell?,Ip W o S b])⟩
theorem a0v{W:Int}(ts:LB)(x:Fin (ts.map (gT W)).length):(((ts.map (gT W))[x.1]'(x.2))).2=.agg #[Sb (nM ts (ts.map (gT W)).length x),Sc Se (hC (nM ts (ts.map (gT W)).length x)),Sb (hT (nM ts (ts.map (gT W)).length x))]:=by
 have hx:x.1<ts.length:=by have:=x.2;simpa using this
 rw[qx];have e:nM ts (ts.map (gT W)).length x=ts[x.1]:=by unfold nM;simp only[List.getD,List.getElem?_eq_getElem hx,Option.getD_some]
 rw[e];rfl
structure S1(w:World)(W0:Int)(ts:LB)(n:Nat)(pre:List (Fin n))(W:World):Prop where
 ex:∃a c,Cl W (w.heap.size+1) 43 [Sc Se W0,Sa a pre.length c,Sa none 0 0]/\W.ownsRow (w.heap.size+3) 9 1 (Sa a pre.length c) pre.length (pre.map λi=>Sb (nM ts n i))
 rb:Cl W w.heap.size 43 [Sc Se 0,Sa none 0 0,Sa none 0 0]
 bw:Bw w W
 sz:w.heap.size+3<=W.heap.size
theorem yU(w:World)(W0:Int)(ts:LB)(n B:Nat)(hB:w.heap.size+3<=B):OwnFrom B (λpre W=>S1 w W0 ts n pre W):=λs W W' row h b hr=>by
 have d:∀r,row=some r->∃o:Obj,W.heap[r]?=some o/\o.isCells=false:=λr e=>(hr r e).2;obtain⟨a,c,h1,h2⟩:=h.ex;exact⟨⟨a,c,h1.nc b d,Tf h2 b d⟩,h.rb.nc b d,h.bw.trans (m_ b (λj e=>by have:=(hr j e).1;omega) h.bw.size),X7 h.sz b.size⟩
theorem Z4{u':World}(h:u.ownsRow base e size v n xs)(hk:∀q,v.ownBlock=some q->u'.heap[q]?=u.heap[q]?):u'.ownsRow base e size v n xs:=by
 refine⟨h.1,h.2.imp id ?_⟩;rintro⟨g,cap,cur,h1,h2,b,a⟩;exact⟨g,cap,cur,h1,h2,(hk g (by rw[h1];rfl)).trans b,a⟩
def rC(rs:List R3)(vs:List Value):List Value:=(List.range rs.length).flatMap λi=>[Sb (rs.getD i d_).key,vs.getD i undef,Sb (rs.getD i d_).o]
structure Bg(W:World)(base:Nat)(v:Value)(rs:List R3)(vs:List Value):Prop where
 len:vs.length=rs.length
 row:W.ownsRow base 179 3 v rs.length (rC rs vs)
 gl:∀i,i<rs.length->∃a c,vs.getD i undef=.slice a (rs.getD i d_).gs.length c/\W.ownsRow base 235 3 (.slice a (rs.getD i d_).gs.length c) (rs.getD i d_).gs.length (gC (rs.getD i d_).gs)
 apart:∀i j,i<rs.length->j<rs.length->i≠j->(vs.getD i undef).ownBlock=none\/(vs.getD i undef).ownBlock≠(vs.getD j undef).ownBlock
def W_(W:World)(base:Nat)(ts:LB)(rs:List R3)(tv rvv:Value):Prop:=W.ownsRow base 9 1 tv ts.length (ts.map Sb)/\∃vs,Bg W base rvv rs vs
structure S2(w:World)(W0:Int)(ts:LB)(rs:List R3)(a:OA)(c D n:Nat)(pre:List (Fin n))(W:World):Prop where
 ex:∃a2 c2 vs,Cl W (w.heap.size+1) 43 [Sc Se W0,Sa a ts.length c,Sa a2 pre.length c2]/\Bg W (w.heap.size+3) (Sa a2 pre.length c2) (pre.map (Fz rs n)) vs
 tr:W.ownsRow (w.heap.size+3) 9 1 (Sa a ts.length c) ts.length (ts.map Sb)
 rb:Cl W w.heap.size 43 [Sc Se 0,Sa none 0 0,Sa none 0 0]
 bw:Bw w W
 sz:w.heap.size+3<=W.heap.size
 dl:D<W.heap.size
 dd:W.heap[D]?=some (.deferred (some []))
theorem Ll{t:TypeId}(h:Cl W b t xs)(e:xs[j]?=some v):fB W b j=v.ownBlock:=by
 unfold fB;rw[h.cell,e];rfl
theorem vT(w:World)(W0:Int)(ts:LB)(rs:List R3)(a:OA)(c D n B:Nat)(hB:w.heap.size+3<=B)(hD:D<B):OwnFrom B (λpre W=>S2 w W0 ts rs a c D n pre W):=λs W W' row h d hr=>by
 have f:∀r,row=some r->∃o:Obj,W.heap[r]?=some o/\o.isCells=false:=λr e=>(hr r e).2;obtain⟨a2,c2,vs,h1,h2⟩:=h.ex;have g:∀b,b<B->some b≠row:=λb hb e=>by have:=(hr b e.symm).1;omega
 exact⟨⟨a2,c2,vs,h1.nc d f,⟨h2.len,Tf h2.row d f,λi k=>by
  obtain⟨m,c3,e,l⟩:=h2.gl i k;exact⟨m,c3,e,Tf l d f⟩,h2.apart⟩⟩,Tf h.tr d f,h.rb.nc d f,h.bw.trans (m_ d (λj e=>by have:=(hr j e).1;omega) h.bw.size),X7 h.sz d.size,P9 h.dl d.size,(d.block D h.dl (g D hD)).trans h.dd⟩
theorem qX{b:World}{W:Int}(h:S1 w W0 ts (ts.map (gT W)).length (List.finRange (ts.map (gT W)).length) b):∃a c,Cl b (w.heap.size+1) 43 [Sc Se W0,Sa a ts.length c,Sa none 0 0]/\b.ownsRow (w.heap.size+3) 9 1 (Sa a ts.length c) ts.length (ts.map Sb):=by
 obtain⟨a,c,h1,h2⟩:=h.ex;have e1:(List.finRange (ts.map (gT W)).length).length=ts.length:=J4;have f:((List.finRange (ts.map (gT W)).length).map λi=>Sb (nM ts (ts.map (gT W)).length i))=ts.map Sb:=by
  apply xu
  ·simp
  intro i hi1 d;have e:i<ts.length:=by simpa using d
  simp[nM,List.getD,V8 e]
 rw[e1]at h1 h2;rw[f]at h2;exact⟨a,c,h1,h2⟩
theorem a1C(h:ShR B rs rv pl w)(i:Fin rv.length):∃a b,(rv[i.1]'(i.2))=.agg #[Sb (Fz rs rv.length i).key,.slice a (Fz rs rv.length i).gs.length b,Sb (Fz rs rv.length i).o]/\R_ w a (Fz rs rv.length i).gs:=by
 have c:=Nat.lt_of_lt_of_eq i.2 h.len;obtain⟨a,b,e,d,_⟩:=h.recs i.1 c;refine⟨a,b,?_,d⟩;unfold Fz;rw[<- e];simp only[List.getD,V8 i.2,Dc]
theorem row_ne(h:W.ownsRow base e size v n xs)(hk:k<base):some k≠v.ownBlock:=λe=>by
 have:=X4 h e.symm;omega
theorem kY{b g:World}{pre:List (Fin n)}{x:Fin n}{tx:BY}(h:S1 w W0 ts n pre b)(l:Cl b (w.heap.size+1) 43 [Sc Se W0,Sa a pre.length c,Sa none 0 0])(ho:b.ownsRow (w.heap.size+3) 9 1 (Sa a pre.length c) pre.length (pre.map λi=>Sb (nM ts n i)))(u:tx=nM ts n x)
 (y:f.ownsRow (w.heap.size+3) 9 1 (Sa a2 (pre.length+1) c2) (pre.length+1) ((pre.map λi=>Sb (nM ts n i))++[Sb tx])) (d:(b.alloc (Sg #[Sb tx] 9)).grownBy f (Sa a pre.length c).ownBlock) (z:(Sa a2 (pre.length+1) c2).ownBlock=(Sa a pre.length c).ownBlock\/(Sa a2 (pre.length+1) c2).ownBlock=some (b.heap.size+1)) (A:g=f.setCell ⟨w.heap.size+1,1,none⟩ (Sa a2 (pre.length+1) c2)):
 (KeepsFrom B b g/\Ar (w.heap.size+1) 1 298 b g)/\S1 w W0 ts n (pre++[x]) g:=by
 have hz:=h.sz;have s:Bw b (b.alloc (Sg #[Sb tx] 9)):=U6;have sG:=d.size;have sN:(b.alloc (Sg #[Sb tx] 9)).heap.size=b.heap.size+1:=J4;have o:=((l.below s O0).gr d (row_ne ho O0)).set 1 (Sa a2 (pre.length+1) c2);have o3:=u_ f (w.heap.size+1) 1 (Sa a2 (pre.length+1) c2);have p:(f.setCell ⟨w.heap.size+1,1,none⟩ (Sa a2 (pre.length+1) c2)).ownsRow (w.heap.size+3) 9 1 (Sa a2 (pre.length+1) c2) (pre.length+1) ((pre.map λi=>Sb (nM ts n i))++[Sb tx]):=Tv y _ _ (by show w.heap.size+1<w.heap.size+3;omega);rw[<- A]at o o3 p;have s3:=o3.size;have H:∀k,k<b.heap.size->k≠w.heap.size+1->(Sa a pre.length c).ownBlock≠some k->g.heap[k]?=b.heap[k]?:=λk hk m hf=>(o3.block k m).trans ((d.block k O0 (λe=>hf e.symm)).trans (s.block k hk));have hf:=Ll (j:=1) l rfl;refine⟨Dl O0 (λk hk m h _=>H k hk m (hf▸h)) l.t (λq v=>⟨9,X6 ho (hf▸v)⟩) ?_,?_⟩
 ·rw[Ll o rfl,hf];rcases z with e|e
  ·exact .inl e
  exact .inr ⟨_,e,O0⟩
 have r:(pre++[x]).length=pre.length+1:=J4;refine⟨⟨a2,c2,?_,?_⟩,?_,?_,O0⟩
 ·rw[r];exact o
 ·rw[r,Nl,Xq,WE,<- u];exact p
 ·exact(H _ O0 O0 (λe=>by have:=X4 ho e;omega)).trans h.rb
 exact⟨o3.os.trans (d.os.trans h.bw.os),o3.tape.trans (d.tape.trans h.bw.tape),o3.output.trans (d.output.trans h.bw.output),by have:=h.bw.size;omega,λk hk=>(H k O0 O0 (λe=>by have:=X4 ho e;omega)).trans (h.bw.block k hk)⟩
theorem VT(h:n=rs.length):(List.finRange n).map (Fz rs n)=rs:=by
 subst h;apply xu
 ·simp
 intro i hi1 a;simp[Fz,List.getD,V8 a]
theorem kN(rs:List R3)(vs:List Value)(y:R3)(v:Value)(h:vs.length=rs.length):rC (rs++[y]) (vs++[v])=rC rs vs++[Sb y.key,v,Sb y.o]:=by
 unfold rC;rw[Q9,jk,fC,Vo]
 congr 1
 ·rw[zq,zq]
  congr 1
  apply ku;intro i c;have b:=Yp.1 c;have e1:(rs++[y]).getD i d_=rs.getD i d_:=by simp only[List.getD,D_ b]
  have a:(vs++[v]).getD i undef=vs.getD i undef:=by simp only[List.getD,D_ (show i<vs.length by omega)]
  rw[e1,a]
 have e1:(rs++[y]).getD rs.length d_=y:=by simp[List.getD]
 have a:(vs++[v]).getD rs.length undef=v:=by simp[List.getD,<- h]
 simp only[Xf,vJ,Vt,e1,a]
theorem N8{t:Nat}(h:oh W b t)(a:oh W b c):t=c:=by
 obtain⟨cur,fr,h⟩:=h;obtain⟨cur',fr',a⟩:=a;rw[h]at a;cases a;rfl
theorem sW{V1 L r:World}{p o:OA}{D m l Bx:Nat}{pre:List (Fin n)}{x:Fin n}{y:R3}{vs:List Value}(h:S2 w W0 ts rs a c D n pre V1)(J:Cl V1 (w.heap.size+1) 43 [Sc Se W0,Sa a ts.length c,Sa a2 pre.length c2])(ho:Bg V1 (w.heap.size+3) (Sa a2 pre.length c2) (pre.map (Fz rs n)) vs)
 (hy:y=Fz rs n x) (hBx:w.heap.size+3<=Bx) (lX:Bx<V1.heap.size) (N:oh V1 Bx 179) (hfx:(Sa a2 pre.length c2).ownBlock≠some Bx) (z:Bw V1 f) (s:f.ownsRow V1.heap.size 235 3 (Sa p y.gs.length m) y.gs.length (gC y.gs))
 (H4:∀k,k<f.heap.size->k≠Bx->u.heap[k]?=f.heap[k]?) (s4:u.heap.size=f.heap.size+1) (O:u.os=f.os/\u.tape=f.tape/\u.output=f.output)
 (hown:L.ownsRow (w.heap.size+3) 179 3 (Sa o (pre.length+1) l) (pre.length+1) (rC (pre.map (Fz rs n)) vs++[Sb y.key,(Sa p y.gs.length m),Sb y.o])) (v:u.grownBy L (Sa a2 pre.length c2).ownBlock) (hloc:(Sa o (pre.length+1) l).ownBlock=(Sa a2 pre.length c2).ownBlock\/(Sa o (pre.length+1) l).ownBlock=some u.heap.size) (e6:r=L.setCell ⟨w.heap.size+1,2,none⟩ (Sa o (pre.length+1) l)):
 (KeepsFrom B V1 r/\Ar (w.heap.size+1) 2 179 V1 r)/\S2 w W0 ts rs a c D n (pre++[x]) r:=by
 have hz:=h.sz;have s12:=z.size;have s5:=v.size;have hrl:∀k,(Sa a2 pre.length c2).ownBlock=some k->k<V1.heap.size:=λk e=>o_ ho.row e;have neS:some (w.heap.size+1)≠(Sa a2 pre.length c2).ownBlock:=row_ne ho.row O0;have V:=(Cl.gr ((H4 _ O0 O0).trans (J.below z O0)) v neS).set 2 (Sa o (pre.length+1) l);have o3:=u_ L (w.heap.size+1) 2 (Sa o (pre.length+1) l);have K:=Tv hown ⟨w.heap.size+1,2,none⟩ (Sa o (pre.length+1) l) (by show w.heap.size+1<w.heap.size+3;omega);rw[<- e6]at V o3 K;have s6:=o3.size;have H2:∀k,k<f.heap.size->k≠Bx->k≠w.heap.size+1->(Sa a2 pre.length c2).ownBlock≠some k->r.heap[k]?=f.heap[k]?:=λk hk U C S=>(o3.block k C).trans ((v.block k O0 (λe=>S e.symm)).trans (H4 k hk U));have H:∀k,k<V1.heap.size->k≠Bx->k≠w.heap.size+1->(Sa a2 pre.length c2).ownBlock≠some k->r.heap[k]?=V1.heap[k]?:=λk hk U C S=>(H2 k O0 U C S).trans (z.block k hk);have HT:∀k t,oh V1 k t->t≠179->k≠w.heap.size+1->r.heap[k]?=V1.heap[k]?:=λk t hT ht C=>H k (by obtain⟨cur,fr,e⟩:=hT;exact(Ya.1 e).1) (λe=>ht (by subst e;exact N8 hT N)) C (λe=>ht (N8 hT (X6 ho.row e)));have bT:Bw w r:=⟨(o3.os.trans (v.os.trans (O.1.trans z.os))).trans h.bw.os,(o3.tape.trans (v.tape.trans (O.2.1.trans z.tape))).trans h.bw.tape,(o3.output.trans (v.output.trans (O.2.2.trans z.output))).trans h.bw.output,by have:=h.bw.size;omega,λk hk=>(H k O0 O0 O0 (λe=>by have:=X4 ho.row e;omega)).trans (h.bw.block k hk)⟩;have hf:=Ll (j:=2) J rfl;refine⟨Dl O0 (λk hk hS h K=>H k hk (λe=>K (e▸N)) hS (hf▸h)) J.t (λq b=>⟨179,X6 ho.row (hf▸b)⟩) ?_,?_⟩
 ·rw[Ll V rfl,hf];rcases hloc with e|e
  ·exact .inl e
  exact .inr ⟨_,e,O0⟩
 have Y:(pre++[x]).length=pre.length+1:=J4;have em:(pre++[x]).map (Fz rs n)=pre.map (Fz rs n)++[y]:=by rw[Nl,hy];rfl
 have d:(pre.map (Fz rs n)).length=pre.length:=Ve ..;have h5T:=I7 (Z4 s (λq b=>H2 q (o_ s b) (λe=>by have:=X4 s b;omega) (λe=>by have:=X4 s b;omega) (λe=>by have:=hrl q e;have:=X4 s b;omega))) O0;have I:∀i,i<pre.length->(vs++[Sa p y.gs.length m]).getD i undef=vs.getD i undef:=λi g=>by simp only[List.getD,D_ (show i<vs.length by rw[ho.len,d];exact g)]
 have P:(vs++[Sa p y.gs.length m]).getD pre.length undef=(Sa p y.gs.length m):=by simp[List.getD,show pre.length=vs.length by rw[ho.len,d]]
 have hrl2:∀i,i<pre.length->(pre.map (Fz rs n)++[y]).getD i d_=(pre.map (Fz rs n)).getD i d_:=λi g=>by simp only[List.getD,D_ (show i<(pre.map (Fz rs n)).length by rw[d];exact g)]
 have hrn:(pre.map (Fz rs n)++[y]).getD pre.length d_=y:=by simp[List.getD]
 have W:∀i,i<pre.length->∀q,(vs.getD i undef).ownBlock=some q->q<V1.heap.size:=λi g q b=>by
  obtain⟨Z,c3,e,E⟩:=ho.gl i (by rw[d];exact g);rw[e]at b;exact o_ E b
 refine⟨⟨o,l,vs++[(Sa p y.gs.length m)],by rw[Y];exact V,?_⟩,?_,?_,bT,O0,by have:=h.dl;omega,?_⟩
 ·rw[Y,em];refine⟨by simp[ho.len],?_,λi g=>?_,λi j g hj hij=>?_⟩
  ·rw[kN _ _ _ _ ho.len,Q9,d];exact K
  ·rw[Q9,d,jk]at g;rcases Z7 i pre.length with Q|hge
   ·rw[I i Q,hrl2 i Q];obtain⟨Z,c3,e,E⟩:=ho.gl i (by rw[d];exact Q);exact⟨Z,c3,e,Z4 E (λq b=>HT q 235 (X6 E b) U5 (λe=>by have:=X4 E b;omega))⟩
   obtain rfl:i=pre.length:=O0;rw[P,hrn];exact⟨p,m,rfl,h5T⟩
  rw[Q9,d,jk]at g hj;rcases Z7 i pre.length with R|hgi
  ·rw[I i R];rcases Z7 j pre.length with A|hgj
   ·rw[I j A];exact ho.apart i j (by rw[d];exact R) (by rw[d];exact A) hij
   obtain rfl:j=pre.length:=O0;rw[P]
   cases b:(vs.getD i undef).ownBlock with
   | none=>exact .inl rfl
   | some q=>
    refine .inr λe=>?_;have:=W i R q b;have:=X4 s e.symm;omega
  obtain rfl:i=pre.length:=O0;rw[P];have A:j<pre.length:=O0;rw[I j A]
  cases b:(Sa p y.gs.length m).ownBlock with
  | none=>exact .inl rfl
  | some q=>
   refine .inr λe=>?_;have:=W j A q e.symm;have:=X4 s b;omega
 ·exact Z4 h.tr (λq b=>HT q 9 (X6 h.tr b) U5 (λe=>by have:=X4 h.tr b;omega))
 ·exact(H w.heap.size O0 O0 O0 (λe=>by have:=X4 ho.row e;omega)).trans h.rb
 have X:=h.dd;refine(H D h.dl (λe=>?_) (λe=>?_) (λe=>?_)).trans h.dd
 ·obtain⟨cur,fr,F⟩:=N;rw[<- e,h.dd]at F;cases F
 ·rw[e,J]at X;cases X
 obtain⟨cur,fr,F⟩:=X6 ho.row e;rw[h.dd]at F;cases F
theorem a5N(B H bT bR bP:Nat)(W:Int)(ts:LB)(rs:List R3)(rv:List Value)(w:World)(hSh:Sh B H bT bR bP W (ts.map (gT W)) rs rv w)(hW:1<=W/\W<=8)(htl:ts.length<=1000)(hrl:rs.length<=1000)(hgs:∀i,(rs.getD i d_).gs.length<=1048576):
 Calls prog 165 #[Sd (some ⟨H,0,none⟩)] w λe w'=>(∃ta tc ra rc',e=Sf (.agg #[Sc Se W,Sa ta ts.length tc,Sa ra rs.length rc'])/\W_ w' w.heap.size ts rs (Sa ta ts.length tc) (Sa ra rs.length rc'))/\Bw w w':=by
 obtain⟨pl,N,hR⟩:=hSh;have a7s:=N.lt;have B0:Bw w (w.alloc (Sg #[Sc Se 0,Sa none 0 0,Sa none 0 0] 43)):=U6;have B1:Bw w ((w.alloc (Sg #[Sc Se 0,Sa none 0 0,Sa none 0 0] 43)).alloc (Sg #[Sc Se W,Sa none 0 0,Sa none 0 0] 43)):=B0.alloc J4 _;have B2:Bw w (((w.alloc (Sg #[Sc Se 0,Sa none 0 0,Sa none 0 0] 43)).alloc (Sg #[Sc Se W,Sa none 0 0,Sa none 0 0] 43)).alloc (Sg #[.map (some bT)] 290)):=B1.alloc L8 _;have z3:(((w.alloc (Sg #[Sc Se 0,Sa none 0 0,Sa none 0 0] 43)).alloc (Sg #[Sc Se W,Sa none 0 0,Sa none 0 0] 43)).alloc (Sg #[.map (some bT)] 290)).heap.size=w.heap.size+3:=J4;have h0:=(N.below B0).blk 0 _ rfl;have h1:=(N.below B1).blk 1 _ rfl;have M2:=U0 (N.below B2).tx;have hfK:Fence.wide.fn 222:=trivial;have hfL:Fence.wide.fn 223:=trivial;have CS:Cl (((w.alloc (Sg #[Sc Se 0,Sa none 0 0,Sa none 0 0] 43)).alloc (Sg #[Sc Se W,Sa none 0 0,Sa none 0 0] 43)).alloc (Sg #[.map (some bT)] 290)) (w.heap.size+1) 43 [Sc Se W,Sa none 0 0,Sa none 0 0]:=E8 (by have h:=I4 (w.alloc (Sg #[Sc Se 0,Sa none 0 0,Sa none 0 0] 43)) [Sc Se W,Sa none 0 0,Sa none 0 0] 43;simpa using h) _;have CM:Cl (((w.alloc (Sg #[Sc Se 0,Sa none 0 0,Sa none 0 0] 43)).alloc (Sg #[Sc Se W,Sa none 0 0,Sa none 0 0] 43)).alloc (Sg #[.map (some bT)] 290)) (w.heap.size+2) 290 [.map (some bT)]:=by have h:=I4 ((w.alloc (Sg #[Sc Se 0,Sa none 0 0,Sa none 0 0] 43)).alloc (Sg #[Sc Se W,Sa none 0 0,Sa none 0 0] 43)) [.map (some bT)] 290;simpa using h
 have hf0:=Ll (j:=1) CS rfl;have hks:∀p∈ts.map (gT W),p.1.size<=maxLen:=λp hp=>by
  obtain⟨t,_,rfl⟩:=Rh.1 hp;show(Y6 t W).size<=maxLen;rw[Es hW];unfold maxLen;omega
 have a8o:=N.tx.lt;have I0:S1 w W ts (ts.map (gT W)).length [] (((w.alloc (Sg #[Sc Se 0,Sa none 0 0,Sa none 0 0] 43)).alloc (Sg #[Sc Se W,Sa none 0 0,Sa none 0 0] 43)).alloc (Sg #[.map (some bT)] 290)):=⟨⟨none,0,CS,M_ _ _ _ _⟩,E8 (E8 (I4 w [Sc Se 0,Sa none 0 0,Sa none 0 0] 43) _) _,B2,O0⟩;obtain⟨i0,hi9,hz0,hz1,hz2⟩:=info_parts' info9;obtain⟨j0,hj9,jz0,jz1,jz2⟩:=info_parts' AQ;refine(callsIn_wide (n:=11)).1 ?_;refine callsIn_of_wp_marks func165 rfl trivial ?_ rfl;simp only[ntmps165,Wp,f_,Fb,Nat.reduceAdd,Nat.reduceSub,Lp,Qq,Hr,Iq,Y9,jd]
 gi_wp2_with (gi_at_call 222;refine(c222 _ _ _).mono ?_;rintro e w'⟨rfl,rfl⟩)
 generalize (((w.alloc (Sg #[Sc Se 0,Sa none 0 0,Sa none 0 0] 43)).alloc (Sg #[Sc Se W,Sa none 0 0,Sa none 0 0] 43)).alloc (Sg #[.map (some bT)] 290))=U2 at*;have hm2:=CM.cell 0;refine wpIn_rangeFunc_ownH rfl O0 (gf:=270) (lb:=#[Sd (some ⟨w.heap.size+2,0,none⟩)]) rfl trivial (enters_of func270 Y0 rfl)
  (a5E (w.heap.size+1) 1 (w.heap.size+2) bT _ (ts.map (gT W)) U2 N.ta hks (by simpa using htl) O0 hm2 M2.o CM.t O0 O0 O0 hf0)
  Ar.trans (Nz O0) (O4 _ _) (λ_=>rfl)
  (λpre W'=>S1 w W ts (ts.map (gT W)).length pre W') (λ_ _ _=>False) (yU w W ts _ _ O0) (λ_ _ _ _ _ h _ _=>h) I0
  (λx X W'=>∃Bx tx,tx=nM ts (ts.map (gT W)).length x/\w.heap.size+3<=Bx/\Cl W' Bx 298 [Sb tx,Sc Se (hC tx),Sb (hT tx)]/\X={ tmps:=#[Sd (some ⟨H,0,none⟩),undef,Sd (some ⟨w.heap.size,0,none⟩),Sd (some ⟨w.heap.size+1,0,none⟩),Sd (some ⟨Bx,0,none⟩),undef,Sd (some ⟨H,0,none⟩),Sd (some ⟨H,0,none⟩),Sd (some ⟨H,0,none⟩),Sc Se W,.agg #[Sc Se W,Sa none 0 0,Sa none 0 0],Sd (some ⟨H,0,none⟩),Sd (some ⟨H,0,none⟩),Sd (some ⟨H,1,none⟩),.map (some bT),.func (.func 270) #[] #[Sd (some ⟨w.heap.size+2,0,none⟩)],.agg #[Sb tx,Sc Se (hC tx),Sb (hT tx)],undef,undef,undef,undef,undef,undef,undef,undef,undef,undef,undef,undef,undef,undef,undef,undef,undef,undef,undef,undef,undef,undef,undef,undef],defers:=[] }) ?hax ?assign ?body ?done ?stop
 case hax=>
  rintro x X s f W2 row⟨Bx,tx,h1,h2,U,h5⟩ Q hr;have hr2:∀r,row=some r->∃o:Obj,f.heap[r]?=some o/\o.isCells=false:=λr e=>(hr r e).2;exact⟨Bx,tx,h1,h2,U.nc Q hr2,h5⟩
 case assign=>
  intro l pre x f K d hK;have hvx:=a0v ts x;rw[hvx];generalize htx:nM ts (ts.map (gT W)).length x=tx at*;have Q:=gG f (Sg #[Sb tx,Sc Se (hC tx),Sb (hT tx)] 298) none;have hi2:=yU w W ts (ts.map (gT W)).length (w.heap.size+3) A8 pre f _ none d Q (λ_ e=>by cases e);have hk2:=Gx (W:=f) (w.heap.size+1) 1 298 (by have:=d.sz;omega) (Sg #[Sb tx,Sc Se (hC tx),Sb (hT tx)] 298);have L:=I4 f [Sb tx,Sc Se (hC tx),Sb (hT tx)] 298;have hz:=d.sz
  gi_wp2
  exact hK _ _ ((KeepsOthers.alloc _ _).from _) hk2 hi2 ⟨f.heap.size,tx,rfl,hz,L,rfl⟩
 case body=>
  rintro l pre x X f hl⟨r,hr⟩ d ⟨Bx,tx,htx,hBx,bX,rfl⟩ hlt;have HTX:=U0 htx;clear htx;obtain⟨a,c,m,E⟩:=d.ex;have hz:=d.sz;have x0:=bX.cell 0;have y1:=m.cell 1;have f1:=m.opn 1;have HO:=U0 (E.alloc (Sg #[Sb tx] 9));have HS0:=U0 d;have HB0:=U0 m;have HR0:=U0 E;have hpl:pre.length<=1000:=by have e:(ts.map (gT W)).length=ts.length:=Ve ..;omega
  have bN:Bw f (f.alloc (Sg #[Sb tx] 9)):=U6;have sN:(f.alloc (Sg #[Sb tx] 9)).heap.size=f.heap.size+1:=J4;clear d m E bX hr;have Z:=trivial
  gi_wp2_with (gi_at_builtin;refine wpListIn_append_own_at _ rfl _ _ 22 rfl (w.heap.size+3) 9 i0 (Sb ⟨#[]⟩) 1 16 underlying22 hi9 hz0 hz1 hz2 rfl U5 _ _ _ rfl HO.o ⟨f.heap.size,0,none⟩ 1 1 [Sb tx] rfl rfl (cell_one_new _ _ _) (by simp[Value.oneCell']) (by unfold maxLen;omega) O0 O0 ?_;revert Z)
  intro v2 w2 hown hgrow _ hloc;obtain⟨a2,c2,rfl⟩:=x9 hown;have neS:=row_ne (k:=w.heap.size+1) HR0 O0;have b2:=(HB0.o.below bN O0).gr hgrow neS;have g1:=b2.cell 1;have fz:=b2.opn 1;have Y:=U0 (kY (B:=U2.heap.size) HS0 HB0 HR0 HTX hown hgrow hloc rfl)
  gi_wp2
  exact⟨Y.o.1.1,Y.o.1.2,Y.o.2⟩
 case done=>
  rintro D xs f hD hxs d hKd;subst hxs;obtain⟨a,c,m,E⟩:=qX d;have hz:=d.sz;have BW1:=d.bw;have hDl:=(Ya.1 hKd).1;have h2:=(N.below BW1).blk 2 _ rfl;have HM:=U0 ((N.below BW1).rc.alloc (Sg #[.map (some bR)] 291));have bX2:Bw f (f.alloc (Sg #[.map (some bR)] 291)):=U6;have sX2:(f.alloc (Sg #[.map (some bR)] 291)).heap.size=f.heap.size+1:=J4;have J0:S2 w W ts rs a c D rv.length [] (f.alloc (Sg #[.map (some bR)] 291)):=⟨⟨none,0,[],E8 m _,⟨rfl,M_ _ _ _ _,λi d=>absurd d (U8 _),λi j d=>absurd d (U8 _)⟩⟩,own_below E bX2,E8 d.rb _,d.bw.trans (bX2.mono O0),O0,O0,(bX2.block D hDl).trans hKd⟩;have CX:=I4 f [.map (some bR)] 291;have hbx2:=CX.cell 0;have hf2:=Ll (j:=2) (E8 m (Sg #[.map (some bR)] 291)) rfl;have a9g:=N.rc.lt;have hrec:∀i:Fin rv.length,∃g u,(rv[i.1]'(i.2))=.agg #[Sb (Fz rs rv.length i).key,.slice g (Fz rs rv.length i).gs.length u,Sb (Fz rs rv.length i).o]/\R_ w g (Fz rs rv.length i).gs:=λi=>a1C hR i;have HRC:=U0 hrec;simp only[]
  gi_wp2_with (gi_at_call 223;refine(a5a _ _ _).mono ?_;rintro e w'⟨rfl,rfl⟩)
  generalize hX2:(f.alloc (Sg #[.map (some bR)] 291))=X2 at*;clear hX2;refine wpIn_rangeFunc_ownH rfl O0 (gf:=272) (lb:=#[Sd (some ⟨f.heap.size,0,none⟩)]) rfl trivial (enters_of func272 Y0 rfl)
   (a5p (w.heap.size+1) 2 f.heap.size bR _ rv X2 (by have:=hR.len;omega) O0 hbx2 HM.o CX.t O0 O0 O0 hf2)
   Ar.trans (Nz O0) (O4 _ _) (λ_=>rfl)
   (λpre W'=>S2 w W ts rs a c D rv.length pre W') (λ_ _ _=>False) (vT w W ts rs a c D _ _ O0 O0) (λ_ _ _ _ _ h _ _=>h) J0
   (λx X W'=>∃Bx y g u,y=Fz rs rv.length x/\w.heap.size+3<=Bx/\R_ w g y.gs/\Cl W' Bx 179 [Sb y.key,Sa g y.gs.length u,Sb y.o]/\oh W' (w.heap.size+1) 43/\fB W' (w.heap.size+1) 2≠some Bx/\X={ tmps:=#[Sd (some ⟨H,0,none⟩),undef,Sd (some ⟨w.heap.size,0,none⟩),Sd (some ⟨w.heap.size+1,0,none⟩),undef,Sd (some ⟨Bx,0,none⟩),Sd (some ⟨H,0,none⟩),Sd (some ⟨H,0,none⟩),Sd (some ⟨H,0,none⟩),Sc Se W,.agg #[Sc Se W,Sa none 0 0,Sa none 0 0],Sd (some ⟨H,0,none⟩),Sd (some ⟨H,0,none⟩),Sd (some ⟨H,1,none⟩),.map (some bT),.func (.func 270) #[] #[Sd (some ⟨w.heap.size+2,0,none⟩)],undef,undef,undef,undef,undef,undef,undef,undef,Sd (some ⟨H,0,none⟩),Sd (some ⟨H,0,none⟩),Sd (some ⟨H,2,none⟩),.map (some bR),.func (.func 272) #[] #[Sd (some ⟨f.heap.size,0,none⟩)],.agg #[Sb y.key,Sa g y.gs.length u,Sb y.o],undef,undef,undef,undef,undef,undef,undef,undef,undef,undef,undef],defers:=[] }) ?a8p ?assign2 ?body2 ?done2 ?stop2
  case a8p=>
   rintro x X s V1 J row⟨Bx,y,g,u,h1,h2,U,h4,h9,h10,h8⟩ Q hr;have hr2:∀r,row=some r->∃o:Obj,V1.heap[r]?=some o/\o.isCells=false:=λr e=>(hr r e).2;have hb:=dN h9 hr2;obtain⟨cur,fr,e9⟩:=h9;have e10:=(Q.block _ (Ya.1 e9).1 hb).trans e9;refine⟨Bx,y,g,u,h1,h2,U,h4.nc Q hr2,⟨cur,fr,e10⟩,?_,h8⟩;unfold fB World.cell? at h10 ⊢;rw[e10]
   rwa[e9]at h10
  case assign2=>
   intro l pre x V1 K d hK;obtain⟨g,u,hvx,I⟩:=HRC.o x;rw[hvx];generalize hy:Fz rs rv.length x=y at*;have Q:=gG V1 (Sg #[Sb y.key,Sa g y.gs.length u,Sb y.o] 179) none;have hi2:=vT w W ts rs a c D rv.length (D+1+(w.heap.size+3)) O0 O0 pre V1 _ none d Q (λ_ e=>by cases e);have hk2:=Gx (W:=V1) (w.heap.size+1) 2 179 (by have:=d.sz;omega) (Sg #[Sb y.key,Sa g y.gs.length u,Sb y.o] 179);have L:=I4 V1 [Sb y.key,Sa g y.gs.length u,Sb y.o] 179;have hz:=d.sz;obtain⟨a2,c2,vs,hb,ho⟩:=d.ex;have hb3:=E8 hb (Sg #[Sb y.key,Sa g y.gs.length u,Sb y.o] 179);have hfx:fB (V1.alloc (Sg #[Sb y.key,Sa g y.gs.length u,Sb y.o] 179)) (w.heap.size+1) 2≠some V1.heap.size:=by
    rw[Ll hb3 rfl];intro V;have:=o_ ho.row V;omega
   clear hvx
   gi_wp2
   exact hK _ _ ((KeepsOthers.alloc _ _).from _) hk2 hi2 ⟨V1.heap.size,y,g,u,rfl,hz,I,L,hb3.t,hfx,rfl⟩
  case body2=>
   rintro l pre x X V1 hl⟨r,hr⟩ d ⟨Bx,y,g,u,hy,hBx,I,bX,_,hfx,rfl⟩ hlt;have HY:=U0 hy;have hgl:y.gs.length<=1048576:=by rw[hy];exact hgs _
   clear hy;obtain⟨a2,c2,vs,m,E⟩:=d.ex;have hz:=d.sz;have x1:=bX.cell 1;have f1:=bX.opn 1;have lX:=bX.lt;rw[Ll m rfl]at hfx;have HS0:=U0 d;have HB0:=U0 m;have HR0:=U0 E;have HBX:=U0 bX;have HFX:=U0 hfx;have h69:=a2K g u y.gs V1 hgl (y9 I d.bw);have hpl:pre.length<=1000:=by have:=hR.len;omega
   clear d m E bX hr hfx I;have Z:=trivial;have hfC:Fence.wide.fn 224:=trivial
   gi_wp2_with (first|(gi_at_call 224;refine(CallsIn.inRound l (callsIn_wide.2 h69)).mono ?_;revert Z)|(refine⟨trivial,?_⟩;gi_at_call 224;refine(CallsIn.inRound l (callsIn_wide.2 h69)).mono ?_;revert Z))
   rintro _ e J⟨⟨C,A,rfl,h5⟩,L⟩;have s2:=L.size;have H5:=U0 h5;have b2:=HBX.o.below L lX;have g1:=b2.cell 1;have g2:=b2.opn 1;have b3:=b2.set 1 (Sa C y.gs.length A);have k0:=b3.cell 0;have k1:=b3.cell 1;have k2:=b3.cell 2;have q2:=((HB0.o.below L O0).on (u_ J Bx 1 (Sa C y.gs.length A)) O0).cell 2;have hrb:∀k,(Sa a2 pre.length c2).ownBlock=some k->k<V1.heap.size/\k≠Bx:=λk e=>⟨o_ HR0.o.row e,λV=>HFX.o (V▸e)⟩;have HO:Hid (((J.setCell ⟨Bx,1,none⟩ (Sa C y.gs.length A)).alloc (Sg #[Sb y.key,Sa C y.gs.length A,Sb y.o] 179)).ownsRow (w.heap.size+3) 179 3 (Sa a2 pre.length c2) pre.length (rC (pre.map (Fz rs rv.length)) vs)):=by
    have h:=HR0.o.row;rw[Ve]at h;exact Z4 h (λq v=>((Ip _ _ q (by have:=(hrb q v).1;simp;omega)).trans (ou _ _ _ _ (by exact(hrb q v).2))).trans (L.block q (hrb q v).1))
   have HC4:Cl ((J.setCell ⟨Bx,1,none⟩ (Sa C y.gs.length A)).alloc (Sg #[Sb y.key,Sa C y.gs.length A,Sb y.o] 179)) J.heap.size 179 [Sb y.key,Sa C y.gs.length A,Sb y.o]:=by have h:=I4 (J.setCell ⟨Bx,1,none⟩ (Sa C y.gs.length A)) [Sb y.key,Sa C y.gs.length A,Sb y.o] 179;simpa using h
   have S:=U0 (yh HC4);have H4:Hid (∀k,k<J.heap.size->k≠Bx->((J.setCell ⟨Bx,1,none⟩ (Sa C y.gs.length A)).alloc (Sg #[Sb y.key,Sa C y.gs.length A,Sb y.o] 179)).heap[k]?=J.heap[k]?):=λk hk hne=>(Ip _ _ k (by simpa using hk)).trans (ou _ _ _ _ (by exact hne));have s4:((J.setCell ⟨Bx,1,none⟩ (Sa C y.gs.length A)).alloc (Sg #[Sb y.key,Sa C y.gs.length A,Sb y.o] 179)).heap.size=J.heap.size+1:=J4;have Z:=trivial
   gi_wp2_with (gi_at_builtin;refine wpListIn_append_own_at _ rfl _ _ 41 rfl (w.heap.size+3) 179 j0 (.agg #[Sb ⟨#[]⟩,Sa none 0 0,Sb ⟨#[]⟩]) 3 56 underlying41 hj9 jz0 jz1 jz2 rfl U5 _ _ _ rfl HO.o ⟨J.heap.size,0,none⟩ 1 1 [Sb y.key,Sa C y.gs.length A,Sb y.o] rfl rfl S.o (by simp[Value.oneCell']) (by unfold maxLen;omega) O0 O0 ?_;revert Z)
   intro v6 V5 hown hgrow _ hloc;obtain⟨a6,a8U,rfl⟩:=x9 hown;have Y:=U0 (sW (B:=X2.heap.size) HS0 HB0 HR0 HY hBx lX HBX.o.t HFX L H5 H4 s4 ⟨rfl,rfl,rfl⟩ hown hgrow (by rw[s4];exact hloc) rfl);have b4:=Cl.gr ((H4 _ O0 O0).trans (HB0.o.below L O0)) hgrow (row_ne HO O0);have m1:=b4.cell 2;have m2:=b4.opn 2
   gi_wp2
   exact⟨Y.o.1.1,Y.o.1.2,Y.o.2⟩
  case done2=>
   rintro D2 xs W2 hD2 hxs d a7K;subst hxs;obtain⟨a2,c2,vs,m,E⟩:=d.ex;have el:(List.finRange rv.length).length=rs.length:=by simp[hR.len]
   have em:=VT hR.len;rw[el]at m E;rw[em]at E;have y0:=m.cell 0;have y1:=m.cell 1;have y2:=m.cell 2;have z0:=d.rb.cell 0;have z1':=d.rb.cell 1;have z2':=d.rb.cell 2;have r0:=d.rb.opn 0;have r1:=d.rb.opn 1;have r2:=d.rb.opn 2;have R:=U0 d;have S:=U0 E;have hzz:=R.o.sz;have hDD:D≠D2:=O0;obtain⟨F,hF⟩:∃F,F=(((W2.setCell ⟨w.heap.size,0,none⟩ (Sc Se W)).setCell ⟨w.heap.size,1,none⟩ (Sa a ts.length c)).setCell ⟨w.heap.size,2,none⟩ (Sa a2 rs.length c2)):=⟨_,rfl⟩;have O:Jr w.heap.size W2 F:=hF▸⟨rfl,rfl,rfl,J4,λk hk=>(rG _ _ _ _ hk).trans ((rG _ _ _ _ hk).trans (rG _ _ _ _ hk))⟩;have ZE:Cl F w.heap.size 43 [Sc Se W,Sa a ts.length c,Sa a2 rs.length c2]:=hF▸((R.o.rb.set 0 (Sc Se W)).set 1 (Sa a ts.length c)).set 2 (Sa a2 rs.length c2);have q2:=(O.block D2 O0).trans a7K;have q1:=(O.block D O0).trans R.o.dd;obtain⟨G,I⟩:∃G,G=(F.putObj D2 (.deferred none)).putObj D (.deferred none):=⟨_,rfl⟩;have oG:∀q,q≠D->q≠D2->G.heap[q]?=F.heap[q]?:=λq h1 h2=>I▸(World.putObj_heap_other h1).trans (World.putObj_heap_other h2);have HFh:∀q t,oh W2 q t->q≠w.heap.size->G.heap[q]?=W2.heap[q]?:=λq t hT v=>by
    obtain⟨cur,fr,e⟩:=hT;exact(oG q (λV=>by rw[V,R.o.dd]at e;cases e) (λV=>by rw[V,a7K]at e;cases e)).trans (O.block q v)
   have a7z:Hid (W_ G w.heap.size ts rs (Sa a ts.length c) (Sa a2 rs.length c2)):=by
    show W_ _ _ _ _ _ _;refine⟨I7 (Z4 R.o.tr (λq v=>HFh q 9 (X6 R.o.tr v) (λe=>by have:=X4 R.o.tr v;omega))) O0,vs,S.o.len,I7 (Z4 S.o.row (λq v=>HFh q 179 (X6 S.o.row v) (λe=>by have:=X4 S.o.row v;omega))) O0,λi d=>?_,S.o.apart⟩;obtain⟨a3,c3,e,U⟩:=S.o.gl i d;exact⟨a3,c3,e,I7 (Z4 U (λq v=>HFh q 235 (X6 U v) (λe=>by have:=X4 U v;omega))) O0⟩
   have HZE:Cl G w.heap.size 43 [Sc Se W,Sa a ts.length c,Sa a2 rs.length c2]:=(oG _ O0 O0).trans ZE;have HBE:Hid (Bw w G):=by
    have b:=R.o.bw;have z:=O.size;exact⟨by rw[I];exact O.os.trans b.os,by rw[I];exact O.tape.trans b.tape,by rw[I];exact O.output.trans b.output,by rw[I];simp;have:=b.size;omega,λk hk=>(oG k O0 O0).trans ((O.block k O0).trans (b.block k hk))⟩
   rw[hF]at q1 q2 I;simp only[]
   gi_wp2
   refine⟨J4,.inl ⟨_,_,rfl,run_takeDeferred q2,⟨J4,.inl ⟨_,_,rfl,run_takeDeferred ((World.putObj_heap_other hDD).trans q1),?_⟩⟩⟩⟩;rw[<- I];exact⟨_,l7 (P:=prog) (ty:=43) rfl _ _ w.heap.size [Sc Se W,Sa a ts.length c,Sa a2 rs.length c2] _ rfl HZE.blk underlying43 rfl Y0,⟨a,c,a2,c2,rfl,a7z⟩,HBE⟩
  case stop2=>
   rintro D c' pre V1 _ _ h _;exact h.elim
 case stop=>
  rintro D c' pre f _ _ h _;exact h.elim
