import Derived.Test.YtkccjgajimjjdaaGreatDooreZB
import Derived.Test.YtkccjgajimjjdaaGreatDooryA
import Derived.Test.YtkccjgajimjjdaaGreatDoorvD
set_option linter.unusedVariables false
set_option maxHeartbeats 8000000
set_option maxRecDepth 100000
namespace Go.Proofs.YtkccjgajimjjdaaGreatDoor
open Proofs.Tryz Go.RowKit Go.Maps
variable{l:List (ByteArray×Value)}{ts:LB}{B H b bP bR bT base k:Nat}{W:Int}{rs:List R3}{rv:List Value}{w w':World}{gs:List G3}{S rest t:List UInt8}
theorem a1Q{x:BY}{c:Int}{u:List UInt8}(w:World)(d:x.size<=1048700)(hm:Jc w)(h:pF x.data.toList c u true):
 Calls prog 183 #[.string x] w λe w'=>e=.returned (.tuple #[.agg #[.int .i64 (hC x),.string (hT x)],.bool true])/\Bw w w':=by
 have a:=c183 x.data.toList w (by simpa using d) hm;rw[Dp]at a;refine a.mono ?_;rintro e w'⟨⟨c',t',ok,rfl,hr,_⟩,f⟩;obtain⟨rfl,rfl,rfl⟩:=XL hr h;obtain⟨e1,b⟩:=OL h;rw[Dp]at e1 b;exact⟨by rw[e1,b],f⟩
theorem OM{x:BY×Value}(h:∀p∈l,Ar p.1 x.1=true):oh x l=l++[x]:=by
 induction l with
 | nil=>rfl
 | cons y r ih=>
  unfold oh;have a:=h y (Vr ..);have:Ar x.1 y.1=false:=by
   cases hq:Ar x.1 y.1 with
   | false=>rfl
   | true=>have:=Iz a hq;rw[En]at this;cases this
  rw[this,ih (λp b=>h p (Og _ b))];simp
theorem GN(h:k<ts.length):ts.take (k+1)=ts.take k++[ts.getD k ByteArray.empty]:=by
 rw[Yr,L9 h];simp[List.getD,L9 h]
theorem QC(h:Hl W ts)(k:Nat):Hl W (ts.take k):=by
 unfold Hl Asc at h ⊢;rw[List.map_take];exact h.sublist (List.take_sublist _ _)
theorem qQ(h:Hl W ts){k:Nat}(c:k<ts.length):(mapD ((ts.take k).map (gT W))).put (kS (G7 (ts.getD k ByteArray.empty) W)) (.held (hV (ts.getD k ByteArray.empty)))=mapD ((ts.take (k+1)).map (gT W)):=by
 have hA:=QC h (k+1);rw[GN c]at hA ⊢;unfold Hl Asc at hA;rw[Rk,List.pairwise_append]at hA;have b:∀p∈(ts.take k).map (gT W),Ar p.1 (G7 (ts.getD k ByteArray.empty) W)=true:=λp a=>hA.2.2 p a (gT W (ts.getD k ByteArray.empty)) E5;rw[BB _ (Fb.2 (λp a e=>by have:=b p a;rw[e,En]at this;cases this))];rw[OM (x:=(G7 (ts.getD k ByteArray.empty) W,hV (ts.getD k ByteArray.empty))) b,Rk];rfl
theorem ShR.JZ{pl:List (ByteArray×Value)}(h:ShR B rs rv pl w)(b:w.grownBy w' (some bT))(hC:XB B H bT bR bP W l rv pl w):ShR B rs rv pl w':=by
 obtain⟨es,ck,a⟩:=Ii hC.tx;exact h.map b hC.hT a
theorem PZ{o:Nat}{x:R3}(h:JD w b o x)(d:Bw w w')(e:b<w.heap.size):∃c a,w'.cell? ⟨b,o,none⟩=some (.string x.key)/\w'.cell? ⟨b,o+1,none⟩=some (.slice c x.gs.length a)/\w'.cell? ⟨b,o+2,none⟩=some (.string x.out)/\qC w.heap.size w' (.agg #[.string x.key,.slice c x.gs.length a,.string x.out]) x:=by
 obtain⟨c,a,h0,h1,h2,f⟩:=h;refine⟨c,a,(d.cell (by exact e)).trans h0,(d.cell (by exact e)).trans h1,(d.cell (by exact e)).trans h2,c,a,rfl,I9 f d,?_⟩;rcases f with h|⟨b',off,ha,hl,_⟩
 ·exact .inl h
 exact .inr ⟨b',off,ha,.inl hl⟩
theorem FU(h:k<rs.length):rs.take (k+1)=rs.take k++[rs.getD k h_]:=by
 rw[Yr,L9 h];simp[List.getD,L9 h]
theorem Sh.below(h:Sh B H bT bR bP W l rs rv w)(a:Bw w w'):Sh B H bT bR bP W l rs rv w':=by
 obtain⟨pl,h1,h2⟩:=h;exact⟨pl,h1.below a,h2.below a⟩
def a3x(s:St)(w w':World)(e:Ending):Prop:=∃H bT bR bP rv,e=.returned (.pointer (some ⟨H,0,none⟩))/\Sh w.heap.size H bT bR bP s.wd (s.ts.map (gT s.wd)) s.rs rv w'
theorem c139(s:St)(ta ra:OA)(tc rc:Nat)(w:World)(f:Bh s)(hs:s.le 1048576)(Q:Ef w ta ra s)(hm:Jc w):
 Calls prog 139 #[.agg #[.int .i64 s.wd,.slice ta s.ts.length tc,.slice ra s.rs.length rc]] w λe w'=>a3x s w w' e/\Bw w w':=by
 have hm0:=hm.1;have HA:=U0 (Hr f);have HT:=U0 f.2.1.2;have htl:=f.2.1.1;have Z:=U0 f.1;have hrl:=f.2.2.1;have HRO:=U0 f.2.2.2;have HSZ:=U0 hs.1.2;have HM:=U0 hm;obtain⟨b,off,hc⟩:=La Q.1;have HC:=U0 hc;have HR:=U0 Q.2;have hmm:=@run_makeMap prog;have sz4:(((((w.alloc (.cells #[vI s.wd,vL ta s.ts.length tc,vL ra s.rs.length rc] 43)).alloc (.map #[] 0)).alloc (.map #[] 0)).alloc (.map #[] 0)).alloc (.cells #[vI s.wd,.map (some (w.heap.size+1)),.map (some (w.heap.size+2)),.map (some (w.heap.size+3))] 236)).heap.size=w.heap.size+5:=E5;have B0:Bw w (((((w.alloc (.cells #[vI s.wd,vL ta s.ts.length tc,vL ra s.rs.length rc] 43)).alloc (.map #[] 0)).alloc (.map #[] 0)).alloc (.map #[] 0)).alloc (.cells #[vI s.wd,.map (some (w.heap.size+1)),.map (some (w.heap.size+2)),.map (some (w.heap.size+3))] 236)):=(((Y6.alloc E5 _).alloc Q8 _).alloc Q8 _).alloc Q8 _;have s0:(w.alloc (.cells #[vI s.wd,vL ta s.ts.length tc,vL ra s.rs.length rc] 43)).heap.size=w.heap.size+1:=E5;have s1:((w.alloc (.cells #[vI s.wd,vL ta s.ts.length tc,vL ra s.rs.length rc] 43)).alloc (.map #[] 0)).heap.size=w.heap.size+2:=E5;have s2:(((w.alloc (.cells #[vI s.wd,vL ta s.ts.length tc,vL ra s.rs.length rc] 43)).alloc (.map #[] 0)).alloc (.map #[] 0)).heap.size=w.heap.size+3:=E5;have s3:((((w.alloc (.cells #[vI s.wd,vL ta s.ts.length tc,vL ra s.rs.length rc] 43)).alloc (.map #[] 0)).alloc (.map #[] 0)).alloc (.map #[] 0)).heap.size=w.heap.size+4:=E5;have O:=World.ownsMap_made (w.alloc (.cells #[vI s.wd,vL ta s.ts.length tc,vL ra s.rs.length rc] 43)) prog 9 Ub;have L:=World.ownsMap_made ((w.alloc (.cells #[vI s.wd,vL ta s.ts.length tc,vL ra s.rs.length rc] 43)).alloc (.map #[] 0)) prog 3 Ub;have J:=World.ownsMap_made (((w.alloc (.cells #[vI s.wd,vL ta s.ts.length tc,vL ra s.rs.length rc] 43)).alloc (.map #[] 0)).alloc (.map #[] 0)) prog 9 Ub;have V:=a_ ((((w.alloc (.cells #[vI s.wd,vL ta s.ts.length tc,vL ra s.rs.length rc] 43)).alloc (.map #[] 0)).alloc (.map #[] 0)).alloc (.map #[] 0)) [vI s.wd,.map (some (w.heap.size+1)),.map (some (w.heap.size+2)),.map (some (w.heap.size+3))] 236;have F:=wM ((((w.alloc (.cells #[vI s.wd,vL ta s.ts.length tc,vL ra s.rs.length rc] 43)).alloc (.map #[] 0)).alloc (.map #[] 0)).alloc (.map #[] 0)) #[vI s.wd,.map (some (w.heap.size+1)),.map (some (w.heap.size+2)),.map (some (w.heap.size+3))] 236;rw[s0]at O;rw[s1]at L;rw[s2]at J;rw[s3]at V F;have C0:Hid (XB w.heap.size (w.heap.size+4) (w.heap.size+1) (w.heap.size+2) (w.heap.size+3) s.wd ((s.ts.take 0).map (gT s.wd)) [] [] (((((w.alloc (.cells #[vI s.wd,vL ta s.ts.length tc,vL ra s.rs.length rc] 43)).alloc (.map #[] 0)).alloc (.map #[] 0)).alloc (.map #[] 0)).alloc (.cells #[vI s.wd,.map (some (w.heap.size+1)),.map (some (w.heap.size+2)),.map (some (w.heap.size+3))] 236))):=U0 ⟨O0,O0,O0,O0,O0,O0,O0,O0,V,(O.alloc _).alloc _ |>.alloc _,List.Pairwise.nil,(L.alloc _).alloc _,J.alloc _,List.Pairwise.nil,F⟩;have R0:Hid (ShR w.heap.size [] [] [] (((((w.alloc (.cells #[vI s.wd,vL ta s.ts.length tc,vL ra s.rs.length rc] 43)).alloc (.map #[] 0)).alloc (.map #[] 0)).alloc (.map #[] 0)).alloc (.cells #[vI s.wd,.map (some (w.heap.size+1)),.map (some (w.heap.size+2)),.map (some (w.heap.size+3))] 236))):=U0 ⟨rfl,λi h=>absurd h (y9 _),λk v e=>by simp[Ya]at e,λk _=>rfl,λk k' v v' _ e=>by simp[Ya]at e,J8 _⟩;have D:Hid (U6 (((((w.alloc (.cells #[vI s.wd,vL ta s.ts.length tc,vL ra s.rs.length rc] 43)).alloc (.map #[] 0)).alloc (.map #[] 0)).alloc (.map #[] 0)).alloc (.cells #[vI s.wd,.map (some (w.heap.size+1)),.map (some (w.heap.size+2)),.map (some (w.heap.size+3))] 236)) w.heap.size [vI s.wd,vL ta s.ts.length tc,vL ra s.rs.length rc]):=U0 ((a_ w [vI s.wd,vL ta s.ts.length tc,vL ra s.rs.length rc] 43).below (N:=w.heap.size+1) (((((G5 _ _).alloc E5 _).alloc E5 _).alloc E5 _).alloc E5 _) O0);have y0:=D.out 0 _ rfl;have y1:=D.out 1 _ rfl
 go_in
 go_wp2_with fail
 generalize (((((w.alloc (.cells #[vI s.wd,vL ta s.ts.length tc,vL ra s.rs.length rc] 43)).alloc (.map #[] 0)).alloc (.map #[] 0)).alloc (.map #[] 0)).alloc (.cells #[vI s.wd,.map (some (w.heap.size+1)),.map (some (w.heap.size+2)),.map (some (w.heap.size+3))] 236))=U4 at*;go_loopw[20] (λi wr=>∃(k:Nat),k<=s.ts.length/\i=.int .i64 k/\Hid (XB w.heap.size (w.heap.size+4) (w.heap.size+1) (w.heap.size+2) (w.heap.size+3) s.wd ((s.ts.take k).map (gT s.wd)) [] [] wr)/\Hid (ShR w.heap.size [] [] [] wr)/\Hid (U6 wr w.heap.size [.int .i64 s.wd,.slice ta s.ts.length tc,.slice ra s.rs.length rc])/\Below w.heap.size w wr/\w.heap.size+5<=wr.heap.size) (λi _=>s.ts.length-(Go.RowKit.intOf i).toNat);exact⟨0,J4 _,rfl,C0,R0,D,B0,O0⟩;obtain⟨k,hk,rfl,C1,Y,W,p,szr⟩:=hrel;by_cases a:k<s.ts.length
 ·obtain⟨ha,hbw,hcell⟩:=Jd HC.out a;subst ha;have g0:=(p.cell (by exact hbw)).trans (hcell k a);obtain⟨cc,tt,hI⟩:=(HT.out k a).1;have hxs:=HSZ.out k;have a7o:=U0 (qQ HA a);have a7p:=U0 (QC HA (k+1));have HNL:Hid (((s.ts.take k).map (gT s.wd)).length<maxLen):=by show _<_;simp;unfold maxLen;omega
  have HKM:Hid ((G7 (s.ts.getD k ByteArray.empty) s.wd).size<=maxLen):=by show _<=_;have:=mr (s:=s.ts.getD k ByteArray.empty) Z.out;have:=Z.out;unfold maxLen;omega
  generalize hx:s.ts.getD k ByteArray.empty=x at*;have P:x.size<=1048700:=O0;have h57:=a1Q wr P (Q9 HM p) hI
  go_wp2_with fail
  refine h57.mono ?_;rintro e u1⟨rfl,t⟩;have su1:=t.size;have BA:Bw w (u1.alloc (.cells #[vI (hC x),vS (hT x)] 72)):=(p.trans (t.mono O0)).alloc O0 _;have B:Bw wr (u1.alloc (.cells #[vI (hC x),vS (hT x)] 72)):=t.alloc su1 _;have E:=U0 (C1.out.below B);have RA:=U0 (Y.out.below B);have yx:=U0 (W.out.below B O0);have r:=U0 (a_ u1 [vI (hC x),vS (hT x)] 72);have szA:(u1.alloc (.cells #[vI (hC x),vS (hT x)] 72)).heap.size=u1.heap.size+1:=E5;have hD:u1.heap.size<(u1.alloc (.cells #[vI (hC x),vS (hT x)] 72)).heap.size:=O0
  go_wp2_with fail
  generalize (u1.alloc (.cells #[vI (hC x),vS (hT x)] 72))=q at*;have f0:=E.out.blk 0 _ rfl;have f1:=E.out.blk 1 _ rfl;have U:=r.out 0 _ rfl;have R:=r.out 1 _ rfl;refine wp_region_held_drew (S:=(λu=>u.cell? (aA (w.heap.size+4) 0)=some (vI s.wd)/\u.cell? (aA (w.heap.size+4) 1)=some (.map (some (w.heap.size+1)))/\u.cell? (aW u1 0)=some (vI (hC x))/\u.cell? (aW u1 1)=some (vS (hT x)))) Y1 ?_ λhHeld=>?_
  ·exact⟨f0,f1,U,R⟩
  refine p_ 0 ?_;refine p_ 1 ?_;refine p_ 2 ?_;refine p_ 3 ?_;refine p_ 4 ?_;refine p_ 5 ?_;refine p_ 6 ?_;refine p_ 7 ?_;refine p_ 8 ?_;refine p_ 10 ?_;refine p_ 11 ?_;refine p_ 12 ?_;refine rq 9 λK y=>?_;go_simp;refine(zJ x s.wd _ P).mono ?_;rintro e v1⟨rfl,hbv⟩
  go_wp2_with fail
  have c:Bw q v1:=((G5 _ _).drew).trans hbv;have sv1:=c.size;have m:=U0 (E.out.below c);have RV:=U0 (RA.out.below c);have BV:=BA.trans (c.mono O0);have h0:=m.out.blk 0 _ rfl;have h1:=m.out.blk 1 _ rfl;have w0:=(c.cell (by exact(show u1.heap.size<q.heap.size by omega))).trans U;have w1:=(c.cell (by exact(show u1.heap.size<q.heap.size by omega))).trans R;have yb:=U0 (yx.out.below c O0);have H:=U0 (r.out.below c O0);refine A8 y ⟨h0,h1,w0,w1⟩ λhHeld=>?_;refine rq 13 λK y=>?_;refine AA (l:=(s.ts.take k).map (gT s.wd)) (k:=G7 x s.wd) (vv:=hV x) rfl 232 (.tmp 32) (.tmp 38) (.tmp 41) rfl rfl rfl rfl m.out.tx underlying232 HNL HKM rfl ?_;intro v2 g d;rw[a7o.out]at g
  replace g:=Jk g
  rw[Ad]at g;have n:=U0 (m.out.upT d g a7p);have R2:=U0 (RV.out.JZ d m);have B2:=BV.trans (N_ d (λj e=>by cases e;omega) O0);have sv2:=d.size;have neT:some w.heap.size≠some (w.heap.size+1):=λe=>by have:=I_ e;omega
  have y2:=U0 (Ob yb d O0 neT);have j0:=n.out.blk 0 _ rfl;have j1:=n.out.blk 1 _ rfl;have I:some u1.heap.size≠some (w.heap.size+1):=λe=>by have:=I_ e;omega
  have z0:=(Ob (vs:=[vI (hC x),vS (hT x)]) H d O0 I) 0 _ rfl;have z1:=(Ob (vs:=[vI (hC x),vS (hT x)]) H d O0 I) 1 _ rfl;refine A8 y ⟨j0,j1,z0,z1⟩ λhHeld=>?_;refine wdn ?_;go_wp2;go_roundw;exact⟨k+1,O0,by go_num,n,R2,y2,B2,O0⟩;exact Z9
 obtain rfl:k=s.ts.length:=O0;have n:Hid (XB w.heap.size (w.heap.size+4) (w.heap.size+1) (w.heap.size+2) (w.heap.size+3) s.wd (s.ts.map (gT s.wd)) [] [] wr):=by have h:=C1.out;rw[Ns]at h;exact h
 have z2:=W.out 2 _ rfl;have S2:Hid (Sh w.heap.size (w.heap.size+4) (w.heap.size+1) (w.heap.size+2) (w.heap.size+3) s.wd (s.ts.map (gT s.wd)) (s.rs.take 0) [] wr):=⟨[],n,Y⟩;go_wp2;go_loopw[46] (λi wr=>∃(k:Nat)(rv:List Value),k<=s.rs.length/\i=.int .i64 k/\Hid (Sh w.heap.size (w.heap.size+4) (w.heap.size+1) (w.heap.size+2) (w.heap.size+3) s.wd (s.ts.map (gT s.wd)) (s.rs.take k) rv wr)/\Below w.heap.size w wr) (λi _=>s.rs.length-(Go.RowKit.intOf i).toNat);exact⟨0,[],J4 _,rfl,S2,p⟩;obtain⟨k,rv,hk,rfl,X,o⟩:=hrel;by_cases a:k<s.rs.length
 ·obtain⟨rb,ro,hra,hrb,hrec⟩:=Jd HR.out a;subst hra;obtain⟨C,z,r0,r1,r2,hV⟩:=PZ (hrec k a) o hrb;have HTK:=U0 (FU a);have hkey:(s.rs.getD k h_).key.size<=1048700:=by have:=(HRO.out k a).1.1;omega
  have htk:(s.rs.take k).length<=1000:=Q8;generalize s.rs.getD k h_=x at*;have A:Bw wr (wr.alloc (.cells #[vS x.key,vL C x.gs.length z,vS x.out] 162)):=Y6;have S4:=U0 (X.out.below A);have V4:=hV.kept (Yf A) (λ_ e=>by cases e);have h59:=a1Z _ _ _ _ _ _ _ _ _ x C z _ S4 V4 htk hkey;have hZq:=o.size
  go_wp2_with fail
  refine h59.mono ?_;rintro e u5⟨rfl,S5,B5,_⟩;have S6:Hid (Sh w.heap.size (w.heap.size+4) (w.heap.size+1) (w.heap.size+2) (w.heap.size+3) s.wd (s.ts.map (gT s.wd)) (s.rs.take (k+1)) (rv++[.agg #[vS x.key,vL C x.gs.length z,vS x.out]]) u5):=by show Sh _ _ _ _ _ _ _ _ _ _;rw[HTK.out];exact S5
  have B6:=(o.trans (A.mono hZq)).trans B5;go_wp2;go_roundw;exact⟨k+1,_,O0,by go_num,S6,B6⟩;exact Z9
 obtain rfl:k=s.rs.length:=O0;have S7:Hid (Sh w.heap.size (w.heap.size+4) (w.heap.size+1) (w.heap.size+2) (w.heap.size+3) s.wd (s.ts.map (gT s.wd)) s.rs rv wr):=by have h:=X.out;rw[Ns]at h;exact h
 go_wp2;go_ret;exact⟨⟨_,_,_,_,rv,rfl,S7⟩,o⟩
open Go.RowKit Go.Maps Go.Sort Go.Shelf
attribute [local go_sem] Oper.semAt_some
theorem a5y(a:Option Nat)(n:Nat)(w:World):CallsIn Fence.wide n prog 191 #[.map a] w λe w'=>e=.returned (.func (.func 236) #[] #[.pointer (some ⟨w.heap.size,0,none⟩)])/\w'=w.alloc (.cells #[.map a] 232):=by
 refine callsIn_of_wp func191 rfl trivial ?_ rfl;simp only[ntmps191,Zy,u_,Td,Nat.reduceAdd,Nat.reduceSub,qA,aB,UA,Oz,j_,Zf]
 gi_wp2
 go_ret;exact⟨rfl,rfl⟩
theorem a3z(a:Option Nat)(n:Nat)(w:World):CallsIn Fence.wide n prog 192 #[.map a] w λe w'=>e=.returned (.func (.func 239) #[] #[.pointer (some ⟨w.heap.size,0,none⟩)])/\w'=w.alloc (.cells #[.map a] 233):=by
 refine callsIn_of_wp func192 rfl trivial ?_ rfl;simp only[ntmps192,Zy,u_,Td,Nat.reduceAdd,Nat.reduceSub,qA,aB,UA,Oz,j_,Zf]
 gi_wp2
 go_ret;exact⟨rfl,rfl⟩
def gC(gs:List G3):List Value:=gs.flatMap λg=>[.bool g.nm,.string g.tl,.string g.ar]
theorem iR(gs:List G3):(gC gs).length=gs.length*3:=by
 induction gs with
 | nil=>rfl
 | cons x r ih=>simp only[gC,Hg,P9]at ih ⊢;rw[ih];simp;omega
theorem aQ(gs:List G3):∀u∈gC gs,u.oneCell'=true:=λu a=>by
 obtain⟨g,_,h⟩:=Gv.1 a;simp at h;rcases h with rfl|rfl|rfl<;>rfl
theorem rZ(gs:List G3):∀k,k<gs.length->(gC gs)[k*3]?=some (.bool (gs.getD k zh).nm)/\(gC gs)[k*3+1]?=some (.string (gs.getD k zh).tl)/\(gC gs)[k*3+2]?=some (.string (gs.getD k zh).ar):=by
 induction gs with
 | nil=>intro k a;exact absurd a (y9 _)
 | cons x r ih=>
  intro k a
  cases k with
  | zero=>exact⟨rfl,rfl,rfl⟩
  | succ k=>
   have:=ih k (by simpa using a);have e1:(k+1)*3=k*3+1+1+1:=O0;rw[e1];exact this
theorem a0e{off:Nat}(h:∀i,i<gs.length->w.cell? ⟨b,off+i*3,none⟩=some (.bool (gs.getD i zh).nm)/\w.cell? ⟨b,off+i*3+1,none⟩=some (.string (gs.getD i zh).tl)/\w.cell? ⟨b,off+i*3+2,none⟩=some (.string (gs.getD i zh).ar)):∀j v,(gC gs)[j]?=some v->w.cell? ((⟨b,off,none⟩:Addr).add j)=some v:=by
 intro j v a;rw[Bl];have hlt:j<gs.length*3:=by rw[<- iR];exact(Zi.1 a).1
 obtain⟨q,hq⟩:∃q,j / 3=q:=⟨_,rfl⟩;have c:q<gs.length:=O0;obtain⟨d,a1,a2⟩:=rZ gs q c;obtain⟨b0,k,g⟩:=h q c;have f:j=q*3\/j=q*3+1\/j=q*3+2:=O0;rcases f with e|e|e
 ·subst e;rw[a]at d;cases d;exact b0
 ·subst e;rw[a]at a1;cases a1;exact k
 subst e;rw[a]at a2;cases a2;exact g
theorem iT:(prog.info? 213).map (λi=>(i.zero,i.size,i.bytes))=some (some (.agg #[.bool false,.string ⟨#[]⟩,.string ⟨#[]⟩]),3,40):=Y1
theorem WL{a:OA}{c:Nat}(h:w.ownsRow base 213 3 (.slice a gs.length c) gs.length (gC gs)):R_ w a gs:=by
 have b:=h;rcases h.2 with⟨hv,h0⟩|⟨g,cap,cur,hv,hg,e,_⟩
 ·exact .inl (Qb.1 h0)
 simp only[Xt]at hv;obtain⟨rfl,_,rfl⟩:=hv;refine .inr ⟨g,0,rfl,(Eb.1 e).1,λk d=>?_⟩;obtain⟨f,a1,a2⟩:=rZ gs k d;refine⟨?_,?_,?_⟩
 ·rw[o9,b.cellAt (k*3) O0];exact f
 ·rw[o9,b.cellAt (k*3+1) O0];exact a1
 rw[o9,b.cellAt (k*3+2) O0];exact a2
theorem sO(b:Addr)(c:Nat)(gs:List G3)(w:World)(hl:gs.length<=1048576)(f:∀u,Bw w u->∀j v,(gC gs)[j]?=some v->u.cell? (b.add j)=some v):
 Calls prog 160 #[.slice (some b) gs.length c] w λe w'=>(∃d a,e=.returned (.slice d gs.length a)/\w'.ownsRow w.heap.size 213 3 (.slice d gs.length a) gs.length (gC gs))/\Bw w w':=by
 obtain⟨l,q,o,n,m⟩:=info_parts' iT;have hnil:∀u,(binOp .eql 160 (vL (some b) gs.length c) vN).run prog u=.ok (.bool false) u:=λu=>Y1;have t:=U0 f;clear f
 go_in
 have p:=trivial
 go_wp2_with(refine TA rfl (.tmp 5) (.tmp 6) 160 rfl w.heap.size 213 l (.agg #[.bool false,.string ⟨#[]⟩,.string ⟨#[]⟩]) 3 40 underlying160 q o n m rfl Z5 _ _ _ rfl ((World.ownsRow_made w #[] 0 X7 (Nat.zero_le _) rfl)) b gs.length c (gC gs) rfl (iR gs) (t.out _ Y6) (aQ gs) (by unfold maxLen;omega) O0 E5 ?_;revert p)
 intro v' w2 g r;obtain⟨d,a,rfl⟩:=V9 g;have s:=Y6.grown r E5 (λk h=>by have i:some w.heap.size=some k:=h;injection i with i;omega);go_wp2;go_ret;exact⟨⟨d,a,rfl,g⟩,s⟩
theorem LM(c:Nat)(w:World):
 Calls prog 160 #[.slice none 0 c] w λe w'=>e=.returned (.slice none 0 0)/\Bw w w':=by
 have hnil:∀u,(binOp .eql 160 (vL none 0 c) vN).run prog u=.ok (.bool true) u:=λu=>Y1
 go_in
 go_wp2;go_ret;exact⟨rfl,G5 _ _⟩
theorem c160(a:OA)(c:Nat)(gs:List G3)(w:World)(hl:gs.length<=1048576)(k:R_ w a gs):
 Calls prog 160 #[.slice a gs.length c] w λe w'=>(∃m l,e=.returned (.slice m gs.length l)/\w'.ownsRow w.heap.size 213 3 (.slice m gs.length l) gs.length (gC gs))/\Bw w w':=by
 cases a with
 | none=>
  rcases k with rfl|⟨b,off,h,_⟩
  ·refine(LM c w).mono ?_;rintro e w'⟨rfl,o⟩;exact⟨⟨none,0,rfl,Y_ _ _ _ _⟩,o⟩
  cases h
 | some ad=>
  refine sO ad c gs w hl λu d=>?_;rcases k with rfl|⟨b,off,h,f,hc⟩
  ·intro j v n;simp[gC]at n
  cases h
  exact a0e (λi g=>⟨(d.cell (by exact f)).trans (hc i g).1,(d.cell (by exact f)).trans (hc i g).2.1,(d.cell (by exact f)).trans (hc i g).2.2⟩)
open Go.RowKit
theorem a1z(b:Bool)(s:BY)(w:World)(a:s=if b=true then⟨#[49]⟩ else⟨#[48]⟩):Calls prog 220 #[.bool b] w λe w'=>e=.returned (.string s)/\Bw w w':=by
 subst a;exact a3T b w
theorem a5g(m:M3)(ls:List L4)(c:Int)(t:BY)(W:Int)(a:OA)(cap:Nat)(w:World)(hm:m.le 1048600)(ht:t.size<=1048700)(hf:(I4 (g_ c t.data.toList)).size<=1048700)(hl:ls.length<=1048576)(hs:∀i,(ls.getD i M_).tx.size<=1048600/\(Xq (ls.getD i M_)).size<=1048700)(hat:S9 w a ls):
 Calls prog 180 #[.agg #[.string m.nm,.string m.tl,.string m.ar],.slice a ls.length cap,.agg #[.int .i64 c,.string t],.int .i64 W] w λe w'=>(∃v,e=.returned (.agg #[.string (uf m),v,.string (G7 (I4 (g_ c t.data.toList)) W)])/\w'.ownsRow w.heap.size 213 3 v ls.length (pG W ls))/\Bw w w':=by
 have hm1:=hm.2.1;have hm2:=hm.2.2;have hk1:¬9223372036854775807<m.tl.size+1:=O0;have hk2:¬9223372036854775807<m.tl.size+1+m.ar.size:=O0;have HL:=U0 hat
 go_in
 go_upto_region 1 with fail
 have hB0:Bw w (((w.alloc (.cells #[.string m.nm,.string m.tl,.string m.ar] 69)).alloc (.cells #[.int .i64 c,.string t] 72)).alloc (.cells #[.string ⟨#[]⟩,.slice none 0 0,.string ⟨#[]⟩] 162)):=(Y6.alloc E5 _).alloc Q8 _;have O:Hid ((Cl (((w.alloc (.cells #[.string m.nm,.string m.tl,.string m.ar] 69)).alloc (.cells #[.int .i64 c,.string t] 72)).alloc (.cells #[.string ⟨#[]⟩,.slice none 0 0,.string ⟨#[]⟩] 162)) w.heap.size 69 [.string m.nm,.string m.tl,.string m.ar]/\Cl (((w.alloc (.cells #[.string m.nm,.string m.tl,.string m.ar] 69)).alloc (.cells #[.int .i64 c,.string t] 72)).alloc (.cells #[.string ⟨#[]⟩,.slice none 0 0,.string ⟨#[]⟩] 162)) (w.heap.size+1) 72 [.int .i64 c,.string t])/\Cl (((w.alloc (.cells #[.string m.nm,.string m.tl,.string m.ar] 69)).alloc (.cells #[.int .i64 c,.string t] 72)).alloc (.cells #[.string ⟨#[]⟩,.slice none 0 0,.string ⟨#[]⟩] 162)) (w.heap.size+2) 162 [.string ⟨#[]⟩,.slice none 0 0,.string ⟨#[]⟩]):=⟨⟨U8 (U8 (X4 w [.string m.nm,.string m.tl,.string m.ar] 69) _) _,U8 (by have h:=X4 (w.alloc (.cells #[.string m.nm,.string m.tl,.string m.ar] 69)) [.int .i64 c,.string t] 72;simpa using h) _⟩,by have h:=X4 ((w.alloc (.cells #[.string m.nm,.string m.tl,.string m.ar] 69)).alloc (.cells #[.int .i64 c,.string t] 72)) [.string ⟨#[]⟩,.slice none 0 0,.string ⟨#[]⟩] 162;simpa using h⟩;generalize ((w.alloc (.cells #[.string m.nm,.string m.tl,.string m.ar] 69)).alloc (.cells #[.int .i64 c,.string t] 72)).alloc (.cells #[.string ⟨#[]⟩,.slice none 0 0,.string ⟨#[]⟩] 162)=V at*;have F:Hid (∀u,Bw V u->(Cl u w.heap.size 69 [.string m.nm,.string m.tl,.string m.ar]/\Cl u (w.heap.size+1) 72 [.int .i64 c,.string t])/\Cl u (w.heap.size+2) 162 [.string ⟨#[]⟩,.slice none 0 0,.string ⟨#[]⟩]/\Bw w u/\S9 u a ls):=λu C=>⟨⟨O.out.1.1.below C O.out.1.1.lt,O.out.1.2.below C O.out.1.2.lt⟩,O.out.2.below C O.out.2.lt,J5 hB0 C,U7 HL (J5 hB0 C)⟩;have hVz:=O.out.2.lt
 go_cut[9] from 10 (λs U=>∃A,s=.pointer (some ⟨A,0,none⟩)/\V.heap.size<=A/\Hid (Cl U A 162 [.string (uf m),.slice none 0 0,.string (G7 (I4 (g_ c t.data.toList)) W)])/\Hid (Bw V U))
 case first=>
  have d:Bw V V.drew:=(G5 _ _).drew;refine wp_region_held_drew (S:=λu=>Cl u w.heap.size 69 [.string m.nm,.string m.tl,.string m.ar]/\Cl u (w.heap.size+1) 72 [.int .i64 c,.string t]) Y1 (F.out _ d).1 λhH=>?_;generalize V.drew=y at*;refine sq ?_;refine tq 1 hH ?_ (hv:=λu C=>dA 9 _ rfl (B:=w.heap.size) (j:=1) rfl (C.1.cell 1) Y1)
  try simp only[qq]
  iterate 2 refine sq ?_
  refine tq 4 hH ?_ (hv:=λu C=>dA 9 _ rfl (B:=w.heap.size) (j:=2) rfl (C.1.cell 2) Y1)
  try simp only[qq]
  refine sq ?_;refine tq 6 hH ?_ (hv:=λu C=>d_ 72 _ rfl (B:=w.heap.size+1) (j:=0) (cs:=[.int .i64 c,.string t]) rfl (λq v e=>by rw[o9];exact(C.2.cell q).trans e) underlying72 rfl Y1)
  try simp only[qq]
  refine p_ 8 ?_;refine wpAnyH_ready (rs:=[7,11]) Y1 E5 ?_;refine AllReadyH.cons (o:=⟨some 19,.call ⟨.value (.func 179),#[.tmp 18],#[72]⟩,9,_,_,none⟩) rfl (λK g=>?_) (AllReadyH.cons (o:=⟨some 9,.alloc 162,0,_,_,none⟩) rfl (λK g=>?_) AllReadyH.nil);rotate_left
  focus
   go_simp;have r:=U0 (X4 y [.string ⟨#[]⟩,.slice none 0 0,.string ⟨#[]⟩] 162);have hA:=d.size
   replace d:=J5 d (Y6 (w:=y) (o:=.cells #[.string ⟨#[]⟩,.slice none 0 0,.string ⟨#[]⟩] 162))
   refine A8 g (F _ d).1 λhH=>?_;generalize y.alloc (.cells #[.string ⟨#[]⟩,.slice none 0 0,.string ⟨#[]⟩] 162)=ya at*;refine rq 7 λK g=>?_;go_simp;refine(ET c t _ ht).mono ?_;rintro e u0⟨rfl,f⟩
   replace r:=U0 (r.out.below f r.out.lt)
   replace d:=J5 d f
   go_simp;refine A8 g (F _ d).1 λhH=>?_;refine rq 9 λK g=>?_;go_simp;refine(lC _ W _ hf).mono ?_;rintro e u1⟨rfl,f⟩
   replace r:=U0 (r.out.below f r.out.lt)
   replace d:=J5 d f
   go_simp;refine A8 g (F _ d).1 λhH=>?_;refine sq ?_;refine rq 12 λK g=>?_;refine t_ rfl 162 _ _ rfl (j:=0) rfl rfl r X7 (Y5 rfl) Y1 ?_
  rotate_left
  focus
   go_simp;refine(ET c t _ ht).mono ?_;rintro e u0⟨rfl,f⟩
   replace d:=J5 d f
   go_simp;refine A8 g (F _ d).1 λhH=>?_;refine wpAnyH_ready (rs:=[9,11]) Y1 E5 ?_;refine AllReadyH.cons (o:=⟨some 21,.call ⟨.value (.func 219),#[.tmp 19,.tmp 20],#[9,3]⟩,9,_,_,none⟩) rfl (λK g=>?_) (AllReadyH.cons (o:=⟨some 9,.alloc 162,0,_,_,none⟩) rfl (λK g=>?_) AllReadyH.nil);rotate_left
   ·go_simp;have r:=U0 (X4 u0 [.string ⟨#[]⟩,.slice none 0 0,.string ⟨#[]⟩] 162);have hA:=d.size
    replace d:=J5 d (Y6 (w:=u0) (o:=.cells #[.string ⟨#[]⟩,.slice none 0 0,.string ⟨#[]⟩] 162))
    refine A8 g (F _ d).1 λhH=>?_;generalize u0.alloc (.cells #[.string ⟨#[]⟩,.slice none 0 0,.string ⟨#[]⟩] 162)=ya at*;refine rq 9 λK g=>?_;go_simp;refine(lC _ W _ hf).mono ?_;rintro e u1⟨rfl,f⟩
    replace r:=U0 (r.out.below f r.out.lt)
    replace d:=J5 d f
    go_simp;refine A8 g (F _ d).1 λhH=>?_;refine sq ?_;refine rq 12 λK g=>?_;refine t_ rfl 162 _ _ rfl (j:=0) rfl rfl r X7 (Y5 rfl) Y1 ?_;intro z H D
    replace d:=d.trans (D.below hA)
    have CZ:=U0 H;refine A8 g (F _ d).1 λhH=>?_;refine wdn ?_
    go_wp2_with fail
    go_meet
    exact⟨_,rfl,hA,CZ,d⟩
   go_simp;refine(lC _ W _ hf).mono ?_;rintro e u1⟨rfl,f⟩
   replace d:=J5 d f
   go_simp;refine A8 g (F _ d).1 λhH=>?_;refine sq ?_;refine rq 11 λK g=>?_;go_simp;have r:=U0 (X4 u1 [.string ⟨#[]⟩,.slice none 0 0,.string ⟨#[]⟩] 162);have hA:=d.size
   replace d:=J5 d (Y6 (w:=u1) (o:=.cells #[.string ⟨#[]⟩,.slice none 0 0,.string ⟨#[]⟩] 162))
   refine A8 g (F _ d).1 λhH=>?_;generalize u1.alloc (.cells #[.string ⟨#[]⟩,.slice none 0 0,.string ⟨#[]⟩] 162)=ya at*;refine rq 12 λK g=>?_;refine t_ rfl 162 _ _ rfl (j:=0) rfl rfl r X7 (Y5 rfl) Y1 ?_
  all_goals
   intro z H D
   replace d:=d.trans (D.below hA)
   have CZ:=U0 H;refine A8 g (F _ d).1 λhH=>?_;refine wdn ?_
   go_wp2_with fail
   go_meet
   exact⟨_,rfl,hA,CZ,d⟩
 obtain⟨A,rfl,hA,r,BV⟩:=hcut;obtain⟨_,CR,BW,_⟩:=F.out _ BV.out;obtain⟨b,off,hc⟩:=Yg (F.out V (G5 _ _)).2.2.2;have BE:=U0 BV.out;have HR:=U0 CR;have HB:=U0 BW;have hAw:=r.out.lt;have hRw:=CR.lt;generalize wc=E at*;have HK:=U0 hc;go_wp2;go_loopw[10] (λi wr=>∃(k:Nat)(v:Value),k<=ls.length/\i=.int .i64 k/\Hid (Cl wr A 162 [.string (uf m),v,.string (G7 (I4 (g_ c t.data.toList)) W)])/\Hid (wr.ownsRow E.heap.size 213 3 v k (pG W (ls.take k)))/\But A E wr) (λi _=>ls.length-(RowKit.intOf i).toNat);exact⟨0,.slice none 0 0,J4 _,rfl,r,Y_ _ _ _ _,But.refl _ _⟩;obtain⟨k,v,hk,rfl,CAr,X,BT⟩:=hrel;obtain⟨av,cv,rfl⟩:=V9 X.out;have sz:=BT.size;by_cases R:k<ls.length;rotate_left
 ·obtain rfl:k=ls.length:=O0;have CR:=U0 ((BT.block (w.heap.size+2) O0 O0).trans HR)
  go_wp2_with(first|(refine Oe CAr.out rfl 162 _ rfl rfl underlying162 rfl Y1 ?_)|(refine I7 rfl 162 _ _ rfl (j:=0) rfl rfl CR.out X7 (Y5 rfl) Y1 ?_;intro z H D))
  refine Q7 (J7 (P:=prog) (ty:=162) rfl _ z (w.heap.size+2) [.string (uf m),.slice av ls.length cv,.string (G7 (I4 (g_ c t.data.toList)) W)] _ rfl H.blk underlying162 rfl Y1) rfl ⟨⟨_,rfl,?_⟩,(HB.out.trans (BT.below O0 O0)).trans (D.below O0)⟩;have h:=X.out;rw[Ns]at h;exact P7 (Yu h (uh D.size.symm) (λq _ N=>D.block q N) O0) O0
 obtain⟨ha,hbw,hcell⟩:=Jd HK.out R;subst ha;have I:Hid (∀u,Bw wr u->(∀i v,([.bool (ls.getD k M_).has,.string (ls.getD k M_).nm,.int .i64 (ls.getD k M_).cd,.string (ls.getD k M_).tx]:List Value)[i]?=some v->u.cell? ⟨b,off+k*4+i,none⟩=some v)/\Cl u A 162 [.string (uf m),.slice av k cv,.string (G7 (I4 (g_ c t.data.toList)) W)]/\u.ownsRow E.heap.size 213 3 (.slice av k cv) k (pG W (ls.take k))/\But A E u):=λu C=>by
  have hB:=BT.trans (But.of_below C);refine⟨λi v e=>?_,CAr.out.below C CAr.out.lt,own_below X C,hB⟩;rw[hB.cell (p:=⟨b,off+k*4+i,none⟩) (U9 hbw BE.out.size) (by show b≠A;omega),BE.out.cell (p:=⟨b,off+k*4+i,none⟩) hbw]
  match i,e with
  | 0,e=>cases e;exact(hcell k R).1
  | 1,e=>cases e;exact(hcell k R).2.1
  | 2,e=>cases e;exact(hcell k R).2.2.1
  | 3,e=>cases e;exact(hcell k R).2.2.2
 have HT:=U0 (jw R);have hxs:=hs k;have hDn:=U0 (λq Q=>X9 X (k:=q) Q);have hOb:=U0 (λq Q=>Z4 X (k:=q) Q);generalize ls.getD k M_=x at*
 go_upto_region 5 with fail
 have l:Bw wr wr.drew:=(G5 _ _).drew;refine wp_region_held_drew (S:=λu=>u.cell? ⟨b,off+k*4,none⟩=some (.bool x.has)/\u.cell? ⟨b,off+k*4+1,none⟩=some (.string x.nm)) Y1 ⟨(I _ l).1 0 _ rfl,(I _ l).1 1 _ rfl⟩ λhH=>?_
 iterate 11 refine sq ?_
 refine rq 11 λK g=>?_;go_simp;have n:Hid (Cl (wr.alloc (.cells #[.bool false,.string ⟨#[]⟩,.string ⟨#[]⟩] 213)).drew wr.heap.size 213 [.bool false,.string ⟨#[]⟩,.string ⟨#[]⟩]):=X4 wr [.bool false,.string ⟨#[]⟩,.string ⟨#[]⟩] 213
 replace l:=(Y6 (w:=wr) (o:=.cells #[.bool false,.string ⟨#[]⟩,.string ⟨#[]⟩] 213)).drew
 generalize (wr.alloc (.cells #[.bool false,.string ⟨#[]⟩,.string ⟨#[]⟩] 213)).drew=y1 at*;refine A8 g ⟨(I _ l).1 0 _ rfl,(I _ l).1 1 _ rfl⟩ λhH=>?_;refine rq 12 λK g=>?_;refine t_ rfl 213 _ _ rfl (j:=0) rfl rfl n X7 (Y5 rfl) Y1 ?_;intro z H D
 replace l:=l.trans (D.below X7)
 replace n:Hid (Cl z wr.heap.size 213 [.bool x.has,.string x.nm,.string ⟨#[]⟩]):=H
 refine A8 g ⟨(I _ l).1 0 _ rfl,(I _ l).1 1 _ rfl⟩ λhH=>?_;refine wdn ?_
 go_upto_if 41 with(refine N8 n.out rfl _ _ rfl rfl rfl Y1 ?_)
 try simp only[qq]
 go_cut[] from 29 to 61 (λU=>Hid (Cl U wr.heap.size 213 [.bool x.has,.string x.nm,.string (G7 (Xq x) W)])/\Hid (Bw wr U))
 case first=>
  cases hh:x.has
  ·have Z:=U0 (show Xq x=I4 (g_ x.cd x.tx.data.toList) by simp[Xq,hh])
   go_wp2_with(refine Vb rfl (d_ 72 _ rfl (B:=b) (j:=off+k*4+2) (cs:=[.int .i64 x.cd,.string x.tx]) rfl (λi v e=>by rw[Kv];exact(I.out _ l).1 (2+i) v (by match i,e with|0,e=>exact e|1,e=>exact e)) underlying72 rfl Y1) ?_)
   refine(ET x.cd x.tx z O0).mono ?_;rintro e u1⟨rfl,f⟩
   replace n:=U0 (n.out.below f n.out.lt)
   replace l:=J5 l f
   go_wp2_with fail
   refine(lC _ W u1 (Z.out▸hxs.2)).mono ?_;rintro e u2⟨rfl,f⟩
   replace n:=U0 (n.out.below f n.out.lt)
   replace l:=J5 l f
   go_wp2_with(refine Cc rfl 9 _ _ rfl (p:=2) rfl rfl Y1 n.out (Cb rfl) ?_;intro z2 H D)
   try simp only[qq]
   go_meet
   exact⟨by show Cl _ _ _ _;rw[Z.out];exact H.out,l.trans (D.below X7)⟩
  have Z:=U0 (show Xq x=if (x.cd==0)=true then⟨#[49]⟩ else⟨#[48]⟩ by simp[Xq,hh])
  go_wp2_with(refine Vb rfl (dA 3 _ rfl (B:=b) (j:=off+k*4+2) rfl ((I.out _ l).1 2 _ rfl) Y1) ?_)
  refine(a1z _ (Xq x) z Z).mono ?_;rintro e u1⟨rfl,f⟩
  replace n:=U0 (n.out.below f n.out.lt)
  replace l:=J5 l f
  go_wp2_with fail
  refine(lC _ W u1 hxs.2).mono ?_;rintro e u2⟨rfl,f⟩
  replace n:=U0 (n.out.below f n.out.lt)
  replace l:=J5 l f
  go_wp2_with(refine Cc rfl 9 _ _ rfl (p:=2) rfl rfl Y1 n.out (Cb rfl) ?_;intro z2 H D)
  try simp only[qq]
  go_meet
  exact⟨H,l.trans (D.below X7)⟩
 obtain⟨CY,BY⟩:=hcut;obtain⟨_,c2,h3,h4⟩:=I.out _ BY.out;have C2:=U0 c2;have H3:=U0 h3;have H4:=U0 h4;have hz:=CY.out.lt;generalize wc=Y at*;have b3:Bw Y (Y.alloc (.cells #[.bool x.has,.string x.nm,.string (G7 (Xq x) W)] 213)):=Y6;have HS:=U0 (X4 Y [.bool x.has,.string x.nm,.string (G7 (Xq x) W)] 213);have C3:=U0 (C2.out.below b3 C2.out.lt);have H5:=U0 (own_below H3 b3);have J:=U0 (H4.out.trans (But.of_below b3))
 go_wp2_with(first|(refine Oe CY.out rfl 213 _ rfl rfl underlying213 rfl Y1 ?_)|(refine N8 C2.out rfl 160 _ rfl rfl rfl Y1 ?_)|(refine Vd rfl _ _ 160 rfl E.heap.size 213 3 underlying160 (Zc Y1) Z5 _ k (pG W (ls.take k)) rfl H5.out _ 1 [.bool x.has,.string x.nm,.string (G7 (Xq x) W)] rfl (.inr ⟨⟨Y.heap.size,0,none⟩,1,rfl,rfl,Ti HS.out⟩) (Y5 rfl) O0 J.out.size ?_;intro v' w6 O6 g6 _;obtain⟨a6,c6,rfl⟩:=V9 O6;have k2:Hid (Cl w6 A 162 [.string (uf m),.slice av k cv,.string (G7 (I4 (g_ c t.data.toList)) W)]):=(g6.block A C3.out.lt (λh=>(by have:=hOb.out A h.symm;omega))).trans C3.out;have B6:But A E w6:=⟨g6.os.trans J.out.os,g6.tape.trans J.out.tape,g6.output.trans J.out.output,I8 J.out.size g6.size,λq Q N=>(g6.block q (U9 Q J.out.size) (λh=>(by have:=hOb.out q h.symm;omega))).trans (J.out.block q Q N)⟩;have H7:=U0 O6;clear O6 g6 C3 H5 J)|(refine Cc rfl 160 _ _ rfl (p:=1) rfl rfl Y1 k2.out (Cb rfl) ?_;intro z3 C7 L))
 go_roundw;exact⟨k+1,.slice a6 (k+1) c6,O0,by go_num,C7,by
  show World.ownsRow _ _ _ _ _ _ _;rw[HT.out,oH];exact Yu H7 (uh L.size.symm) (λq _ N=>L.block q N) hAw,B6.trans ⟨L.os,L.tape,L.output,uh L.size.symm,λq _ N=>L.block q N⟩⟩
 exact Z9
theorem aY:∀n:Fin 16,hx (hexL.getD n.val 0)=(n.val:Int):=Z5
theorem kG(n:Nat)(h:n<16):hx (hexL.getD n 0)=n:=aY ⟨n,h⟩
theorem Hu(b:UInt8):-1<=hx b/\hx b<=15:=by
 unfold hx
 (repeat' split)<;>omega
def Jz(S t:List UInt8)(k:Nat):Prop:=∀l,S=J6 l->∃r,l=t++r/\S.drop k=r.flatMap qb++[34]
theorem nN(S:List UInt8):Jz S [] 1:=λl h=>⟨l,rfl,by rw[h];rfl⟩
theorem NV(h:Jz S t k)(hk:S.length<=k+1)(l:List UInt8)(e:S=J6 l):t=l:=by
 obtain⟨r,h1,h2⟩:=h l e
 cases r with
 | nil=>simpa using h1.symm
 | cons c r=>
  have hq:1<=(qb c).length:=Rl.2 (NK c);have:=l7 List.length h2;simp only[jk,Hg,P9,u_,Td]at this;omega
theorem a2E{a b:UInt8}(h:Jz S t k)(hd:S.drop k=92::a::b::rest):Jz S (t++[UInt8.ofNat (16*hx a+hx b).toNat]) (k+3):=by
 intro l e;obtain⟨r,h1,h2⟩:=h l e
 cases r with
 | nil=>rw[hd]at h2;simp at h2
 | cons c r=>
  rw[hd,Hg]at h2;cases hc:T_ c
  ·rw[xg hc]at h2;simp only[Zf,j_,Xi,Rz]at h2;obtain⟨ha,d,hr⟩:=h2;have lc:=Eu c;have e1:hx a=(c.toNat / 16:Nat):=by rw[ha];exact kG _ O0
   have g:hx b=(c.toNat % 16:Nat):=by rw[d];exact kG _ O0
   have f:UInt8.ofNat (16*hx a+hx b).toNat=c:=by
    rw[e1,g];apply Wi.1;have:(16*((c.toNat / 16:Nat):Int)+((c.toNat % 16:Nat):Int)).toNat=c.toNat:=O0;rw[this];simp
   refine⟨r,by rw[h1,f];simp,?_⟩;rw[<- XE,hd];exact hr
  rw[bg hc]at h2;simp only[Zf,j_,Xi]at h2;rw[<- h2.1,Qz]at hc;cases hc
theorem VK{x:UInt8}(h:Jz S t k)(hd:S.drop k=x::rest)(g:rest≠[])
 (i:∀a b c q,x=92->rest=a::b::c::q->hx a<0\/hx b<0):Jz S (t++[x]) (k+1):=by
 intro l e;obtain⟨r,h1,h2⟩:=h l e
 cases r with
 | nil=>rw[hd]at h2;simp at h2;exact absurd h2.2 g
 | cons c r=>
  rw[hd,Hg]at h2;cases hc:T_ c
  ·rw[xg hc]at h2;simp only[Zf,j_,Xi]at h2;obtain⟨f,hr⟩:=h2;exfalso;have lc:=Eu c;have e1:=kG (c.toNat / 16) O0;have e2:=kG (c.toNat % 16) O0;rcases hq:r.flatMap qb++[34]with _|⟨d,q⟩
   ·simp at hq
   rw[hq]at hr;rcases i _ _ _ _ f hr with h|h<;>omega
  rw[bg hc]at h2;simp only[Zf,j_,Xi]at h2;refine⟨r,by rw[h1,h2.1];simp,?_⟩;rw[<- XE,hd];exact h2.2
theorem FP(s:BY)(k:Nat)(h:k<s.size):s.data.toList.drop k=s[k]::s.data.toList.drop (k+1):=by
 rw[YA (by simpa using h)];rfl
theorem KY(a b:UInt8)(h1:0<=hx a)(h2:0<=hx b):((UInt8.ofNat (16*hx a+hx b).toNat).toNat:Int)=16*hx a+hx b:=by
 have:=Hu a;have:=Hu b;simp;omega
theorem a2w{g cp:Nat}{l:List UInt8}(h:w.ownsRow base 5 1 (.slice (some ⟨g,0,none⟩) l.length cp) l.length (Lib.byteCells l)):(convert 181 9 (.slice (some ⟨g,0,none⟩) l.length cp)).run prog w=.ok (.string (I4 l)) w:=by
 have:=run_convert_bytes_arg (P:=prog) w 181 5 underlying181 underlying5 g 0 l.length cp (l.map λb=>(b.toNat:Int)) E5 (λi a=>by
  rw[o9,h.cellAt i O0];simp[Lib.byteCells,a]) 9 underlying9
 rw[this];have e:l.map ((λn:Int=>UInt8.ofNat n.toNat)∘λb=>(b.toNat:Int))=l:=(Tz (λb _=>E5)).trans (PD l);simp only[strOfNums,Nw,e];rfl
theorem Jp{e:TypeId}{size:Nat}{v:Value}{n:Nat}{xs:List Value}(h:w.ownsRow base e size v n xs)(hn:0<n):∃g cp,v=.slice (some ⟨g,0,none⟩) n cp:=by
 rcases h.2 with⟨_,h0⟩|⟨g,cap,cur,hv,_⟩
 ·omega
 exact⟨g,cap,hv⟩
theorem a0V(s:BY)(w:World)(hs:s.size<=1048700):
 Calls prog 126 #[.string s] w λe w'=>(∃t,e=.returned (.string (I4 t))/\t.length<=s.size+1/\∀l,s.data.toList=J6 l->t=l)/\Bw w w':=by
 obtain⟨F,K,J,I,H⟩:=info_parts info5
 go_in
 go_wp2;go_loopw[3,4] (λv i wr=>∃(k:Nat)(t:List UInt8),1<=k/\k<=s.size+1/\i=.int .i64 k/\t.length<=k/\wr.ownsRow w.heap.size 5 1 v t.length (Lib.byteCells t)/\Hid (∃g cp,v=.slice (some ⟨g,0,none⟩) t.length cp)/\Hid (Jz s.data.toList t k)/\Below w.heap.size w wr/\w.heap.size+1<=wr.heap.size) (λ_ i _=>s.size+1-(RowKit.intOf i).toNat);exact⟨1,[],O0,O0,rfl,E5,Tv _ #[] 0 X7 (J4 _) rfl,⟨_,_,rfl⟩,nN _,Y6,E5⟩;obtain⟨k,t,hk1,hk2,rfl,htk,o,hfm,E,p,hz⟩:=hrel;by_cases X:k+1<s.size
 ·have Z:k<s.size:=O0;have L:=U0 (FP s k Z);have D:=U0 (FP s (k+1) X);by_cases B:s[k]=92
  ·have e92:((s[k].toNat:Int)==92)=true:=by rw[B];rfl
   by_cases h3:k+3<s.size
   ·have Y:k+2<s.size:=O0;have Q:=U0 (FP s (k+2) Y);have r1:=Hu s[k+1];have r2:=Hu s[k+2];by_cases W:0<=hx s[k+1]
    ·by_cases V:0<=hx s[k+2]
     ·have C:=U0 (a2E E.out (by rw[L.out,D.out,Q.out,B]));have HB:=U0 (KY _ _ W V);clear B
      go_wp2_with(go_at_call 173;refine(c173 _ _).mono ?_;rintro e w1⟨rfl,n⟩;obtain rfl:=n.symm)
      have U:IntKind.i64.wrap ((k:Int)+1)=((k+1:Nat):Int):=by simp[IntKind.wrap,IntKind.signed,IntKind.bits];omega
      have S:IntKind.i64.wrap ((k:Int)+2)=((k+2:Nat):Int):=by simp[IntKind.wrap,IntKind.signed,IntKind.bits];omega
      have R:IntKind.i64.wrap (16*hx s[k+1])=16*hx s[k+1]:=by simp[IntKind.wrap,IntKind.signed,IntKind.bits];omega
      have O:IntKind.i64.wrap (16*hx s[k+1]+hx s[k+2])=16*hx s[k+1]+hx s[k+2]:=by simp[IntKind.wrap,IntKind.signed,IntKind.bits];omega
      have N:IntKind.u8.wrap (16*hx s[k+1]+hx s[k+2])=16*hx s[k+1]+hx s[k+2]:=by simp[IntKind.wrap,IntKind.signed,IntKind.bits];omega
      have WA:Hid (IntKind.u8.wrap (IntKind.i64.wrap (16*hx s[k+1]+hx s[k+2]))=16*hx s[k+1]+hx s[k+2]):=by rw[O,N];rfl
      have hc1:((k+1:Nat):Int)<(s.size:Int):=O0;have hc2:((k+2:Nat):Int)<(s.size:Int):=O0
      go_region_law (first|(refine Gu rfl (.tmp 40) (.tmp 54) 181 rfl w.heap.size 5 F (.int .u8 0) 1 1 underlying181 K J I H rfl Z5 _ _ _ rfl ((o.drew).alloc _) (aW wr 0) 1 1 [_] rfl rfl (cell_one_new _ _ _) (by intro u d;simp at d;subst d;rfl) (by unfold maxLen;omega) O0 Q8 ?_;intro v' r x m)|(go_simp;go_wp2_with(go_at_call 173;refine(c173 _ _).mono ?_;rintro e w1⟨rfl,n⟩;obtain rfl:=n.symm)))
      all_goals clear U S R O N hc1 hc2
      all_goals go_wp2
      all_goals go_roundw
      all_goals(try(simp[RowKit.intOf];omega;done))
      all_goals
       have A:=((p.drew).alloc p.size _).grown m Q8 (λj y=>(o.lt j y).1);have f:r.ownsRow w.heap.size 5 1 v' (t++[UInt8.ofNat (16*hx s[k+1]+hx s[k+2]).toNat]).length (Lib.byteCells (t++[UInt8.ofNat (16*hx s[k+1]+hx s[k+2]).toNat])):=by
        rw[Qa,P9];rw[show Lib.byteCells [UInt8.ofNat (16*hx s[k+1]+hx s[k+2]).toNat]=[.int .u8 (16*hx s[k+1]+hx s[k+2])] from l7 (λz:Int=>[Value.int .u8 z]) HB.out];have P:=x;simp only[show((k:Int)+2).toNat=k+2 by omega,WA.out]at P;exact P
       exact⟨k+3,_,O0,O0,by go_num,Q8,f,Jp f E5,C,A,by have:=m.size;simp at this;omega⟩
     have C:=U0 (VK E.out (by rw[L.out]) (by rw[D.out];simp) (λa b c q _ h=>.inr (by rw[D.out,Q.out]at h;injection h with _ h;injection h with h _;rw[<- h];omega)));clear B
     go_wp2_with(first|(go_at_call 173;refine(c173 _ _).mono ?_;rintro e w1⟨rfl,n⟩;obtain rfl:=n.symm)|(at_builtin;refine wpList_append_own _ rfl _ _ 181 rfl w.heap.size 5 F (.int .u8 0) 1 1 underlying181 K J I H rfl Z5 _ _ _ rfl (o.alloc _) ⟨wr.heap.size,0,none⟩ 1 1 [_] rfl rfl (cell_one_new _ _ _) (by intro u d;simp at d;subst d;rfl) (by unfold maxLen;omega) O0 Q8 ?_;intro v' r x m _))
     go_roundw
     ·have A:=(p.alloc p.size _).grown m Q8 (λj y=>(o.lt j y).1);have f:r.ownsRow w.heap.size 5 1 v' (t++[s[k]]).length (Lib.byteCells (t++[s[k]])):=by rw[Qa,P9];exact x
      exact⟨k+1,t++[s[k]],O0,O0,by go_num,Q8,f,Jp f E5,C,A,by have:=m.size;simp at this;omega⟩
     exact Z9
    have C:=U0 (VK E.out (by rw[L.out]) (by rw[D.out];simp) (λa b c q _ h=>.inl (by rw[D.out]at h;injection h with h _;rw[<- h];omega)));clear B
    go_wp2_with(first|(go_at_call 173;refine(c173 _ _).mono ?_;rintro e w1⟨rfl,n⟩;obtain rfl:=n.symm)|(at_builtin;refine wpList_append_own _ rfl _ _ 181 rfl w.heap.size 5 F (.int .u8 0) 1 1 underlying181 K J I H rfl Z5 _ _ _ rfl (o.alloc _) ⟨wr.heap.size,0,none⟩ 1 1 [_] rfl rfl (cell_one_new _ _ _) (by intro u d;simp at d;subst d;rfl) (by unfold maxLen;omega) O0 Q8 ?_;intro v' r x m _))
    go_roundw
    ·have A:=(p.alloc p.size _).grown m Q8 (λj y=>(o.lt j y).1);have f:r.ownsRow w.heap.size 5 1 v' (t++[s[k]]).length (Lib.byteCells (t++[s[k]])):=by rw[Qa,P9];exact x
     exact⟨k+1,t++[s[k]],O0,O0,by go_num,Q8,f,Jp f E5,C,A,by have:=m.size;simp at this;omega⟩
    exact Z9
   have C:=U0 (VK E.out (by rw[L.out]) (by rw[D.out];simp) (λa b c q _ h=>by have hh:=l7 List.length h;simp at hh;omega));clear B
   go_wp2_with(first|(go_at_call 173;refine(c173 _ _).mono ?_;rintro e w1⟨rfl,n⟩;obtain rfl:=n.symm)|(at_builtin;refine wpList_append_own _ rfl _ _ 181 rfl w.heap.size 5 F (.int .u8 0) 1 1 underlying181 K J I H rfl Z5 _ _ _ rfl (o.alloc _) ⟨wr.heap.size,0,none⟩ 1 1 [_] rfl rfl (cell_one_new _ _ _) (by intro u d;simp at d;subst d;rfl) (by unfold maxLen;omega) O0 Q8 ?_;intro v' r x m _))
   go_roundw
   ·have A:=(p.alloc p.size _).grown m Q8 (λj y=>(o.lt j y).1);have f:r.ownsRow w.heap.size 5 1 v' (t++[s[k]]).length (Lib.byteCells (t++[s[k]])):=by rw[Qa,P9];exact x
    exact⟨k+1,t++[s[k]],O0,O0,by go_num,Q8,f,Jp f E5,C,A,by have:=m.size;simp at this;omega⟩
   exact Z9
  have e92:((s[k].toNat:Int)==92)=false:=by
   simp only[V_];intro e;exact B (Wi.1 (by
    have:s[k].toNat=92:=O0;rw[this];rfl))
  have C:=U0 (VK E.out (by rw[L.out]) (by rw[D.out];simp) (λa b c q h _=>absurd h B));clear B
  go_wp2_with(first|(go_at_call 173;refine(c173 _ _).mono ?_;rintro e w1⟨rfl,n⟩;obtain rfl:=n.symm)|(at_builtin;refine wpList_append_own _ rfl _ _ 181 rfl w.heap.size 5 F (.int .u8 0) 1 1 underlying181 K J I H rfl Z5 _ _ _ rfl (o.alloc _) ⟨wr.heap.size,0,none⟩ 1 1 [_] rfl rfl (cell_one_new _ _ _) (by intro u d;simp at d;subst d;rfl) (by unfold maxLen;omega) O0 Q8 ?_;intro v' r x m _))
  go_roundw
  ·have A:=(p.alloc p.size _).grown m Q8 (λj y=>(o.lt j y).1);have f:r.ownsRow w.heap.size 5 1 v' (t++[s[k]]).length (Lib.byteCells (t++[s[k]])):=by rw[Qa,P9];exact x
   exact⟨k+1,t++[s[k]],O0,O0,by go_num,Q8,f,Jp f E5,C,A,by have:=m.size;simp at this;omega⟩
  exact Z9
 have HE:=U0 (NV E.out Q8);have HL:Hid (t.length<=s.size+1):=by show t.length<=s.size+1;omega
 obtain⟨g,cp,hv⟩:=hfm.out;subst hv;have hcv:=a2w o;go_wp2;go_ret;exact⟨⟨t,rfl,HL.out,HE.out⟩,p⟩
