import Derived.Test.YtkccjgajimjjdaaGreatDoorzC
import Derived.Test.YtkccjgajimjjdaaGreatDoorpD
import Derived.Test.YtkccjgajimjjdaaGreatDoorLX
set_option linter.unusedVariables false
set_option maxHeartbeats 8000000
set_option maxRecDepth 100000
namespace Go.Proofs.YtkccjgajimjjdaaGreatDoor
open Proofs.Tryz Go.RowKit
def IJ(rt:LB):Prop:=rt.length<=10/\∀i,i<rt.length->X6 (rt.getD i ByteArray.empty).data.toList=true/\rt.getD i ByteArray.empty∉rt.take i
theorem UH{w:World}{b off k:Nat}{rt:LB}(hk:k<=rt.length)(hl:b<w.heap.size)(h:∀i,i<rt.length->w.cell? ⟨b,off+i,none⟩=some (.string (rt.getD i ByteArray.empty))):G.yH w (some ⟨b,off,none⟩) (rt.take k):=.inr ⟨b,off,rfl,hl,λi a=>by
 have h1:i<rt.length:=by simp at a;omega
 have h2:i<k:=by simp at a;omega
 rw[h i h1];simp[List.getD,h1,h2]⟩
theorem qp{α:Type}{l:List α}{k:Nat}(a:k<=l.length):(l.take k).length=k:=by rw[U_,Sr a]
theorem c88(a:OA)(cap:Nat)(rt:LB)(w:World)(hcp:rt.length<=cap)(hl:rt.length<=1048576)(p:∀i,(rt.getD i ByteArray.empty).size<=1048576)(q:Z7 w a rt):
 Calls prog 88 #[.slice a rt.length cap] w λe w'=>Rb (IJ rt) e/\w'=w:=by
 obtain⟨b,off,hc⟩:=La q;have A:=U0 hc;have u:=U0 p;clear hc q p
 go_in
 by_cases h10:rt.length<=10;rotate_left
 ·have d:Hid (¬IJ rt):=λh=>h10 h.1;have z:(10:Int)<rt.length:=O0;go_wp2;go_ret;exact⟨X5 d.out,rfl⟩
 have z:¬(10:Int)<rt.length:=O0;go_wp2;go_loop[10] (λi=>∃k:Nat,k<=rt.length/\i=.int .i64 k/\Hid (∀j,j<k->X6 (rt.getD j ByteArray.empty).data.toList=true/\rt.getD j ByteArray.empty∉rt.take j)) (λi=>rt.length-(RowKit.intOf i).toNat);exact⟨0,J4 _,rfl,λj h=>absurd h (y9 _)⟩;obtain⟨k,g,rfl,hd⟩:=hrel;by_cases f:k<rt.length;rotate_left
 ·obtain rfl:k=rt.length:=O0;have t:Hid (IJ rt):=⟨h10,hd.out⟩;go_wp2;go_ret;exact⟨J_ t.out,rfl⟩
 obtain⟨ha,r,n⟩:=Jd A.out f;subst ha;have g0:=n k f;have hsz:=u.out k;have y:Hid (X6 (rt.getD k ByteArray.empty).data.toList=true/\rt.getD k ByteArray.empty∉rt.take k->∀j,j<k+1->X6 (rt.getD j ByteArray.empty).data.toList=true/\rt.getD j ByteArray.empty∉rt.take j):=λl j hj=>by
  rcases D8 j k with h|h
  ·exact hd.out j h
  obtain rfl:j=k:=O0;exact l
 have d:Hid (¬(X6 (rt.getD k ByteArray.empty).data.toList=true/\rt.getD k ByteArray.empty∉rt.take k)->¬IJ rt):=λl h=>l (h.2 k f);have m:=λs=>G.a4N (some (aA b off)) cap (rt.take k) s w (by rw[qp g];omega) (UH g r n);simp only[qp g]at m;have v:=U0 m;generalize rt.getD k ByteArray.empty=X at*;clear n hd m
 go_wp2_with fail
 refine(c148 X w O0).mono ?_;rintro e w1⟨rfl,hw⟩;obtain rfl:=hw.symm;by_cases c:X6 X.data.toList=true;rotate_left
 ·have o:=U0 (d.out (λh=>c h.1));rw[Ji.2 c];go_wp2;go_ret;exact⟨X5 o.out,rfl⟩
 rw[c]
 go_wp2_with fail
 refine(v.out X).mono ?_;rintro e w1⟨rfl,hw⟩;obtain rfl:=hw.symm;by_cases hm:X∈rt.take k
 ·have o:=U0 (d.out (λh=>h.2 hm));rw[G.Gi.2 hm];go_wp2;go_ret;exact⟨X5 o.out,rfl⟩
 have x:=U0 (y.out ⟨c,hm⟩);rw[Ji.2 (λh=>hm (G.Gi.1 h))];go_wp2
 go_round
 exact⟨k+1,O0,by go_num,x⟩;exact Z9
theorem xw{P:Program}{ops:Array Oper}{Q:Exit->Act->World->Prop}{rest:List Oper}{o:Oper}{a:Act}{w:World}(hw:Region.wanted o (yielded ops a.tmps)=true)(ty:TypeId)(x:Operand)(ho:o.op=.load ty x){B:Nat}{t:TypeId}{cs:List Value}{d:TypeDesc}(hx:a.eval x=.pointer (some ⟨B,0,none⟩))(hB:Cl w B t cs)(b:P.underlying ty=some d)(hd:(match d with | .struct _ | .array _ _=>true|_=>false)=true)(c:(P.info? ty).map (·.size)=some cs.length)(h:wpList P ops Q rest (a.put o.dst (.agg cs.toArray)) w):wpList P ops Q (o::rest) a w:=by
 refine wpList_step λK e=>?_;rw[L8 hw];unfold Oper.wp;rw[d_ ty x ho hx (λi v hv=>by rw[o9,hB.cell];exact hv) b hd c];exact e _ _ h
def dG(ms:List M3)(rn:List Rn):Prop:=∀i,i<rn.length->(∃j,j<ms.length/\(ms.getD j L_).nm=(rn.getD i A_).nm)/\Zg (rn.getD i A_)/\(0<i->Op.bytesLess (rn.getD (i-1) A_).nm.toList (rn.getD i A_).nm.toList=true)
theorem bQ(x:Rn)(b:OA)(a:Nat):∀v∈Ph (x,.slice b x.ls.length a),v.oneCell'=true:=λv hv=>by
 simp[Ph]at hv;rcases hv with rfl|rfl|rfl|rfl|rfl|rfl<;>rfl
theorem c89(a pa:OA)(cap pc:Nat)(rn:List Rn)(ms:List M3)(w:World)(hl:rn.length<=1048576)(hs:∀i,(rn.getD i A_).le 1048576)(hm:ms.length<=300)(hasc:G.bC ms)(hat:yj w a rn)(hmk:G.Ol w pa ms):
 Calls prog 89 #[.slice a rn.length cap,.slice pa ms.length pc] w λe w'=>Rb (dG ms rn) e/\Bw w w':=by
 obtain⟨b,off,hc⟩:=Na hat;have HC:=U0 hc;have HS:=U0 hs;have HA:=U0 hasc;have HK:=U0 hmk
 go_in
 go_wp2;go_loopw[11] (λi wr=>∃k:Nat,k<=rn.length/\i=.int .i64 k/\Hid (∀i,i<k->(∃j,j<ms.length/\(ms.getD j L_).nm=(rn.getD i A_).nm)/\Zg (rn.getD i A_)/\(0<i->Op.bytesLess (rn.getD (i-1) A_).nm.toList (rn.getD i A_).nm.toList=true))/\Below w.heap.size w wr) (λi _=>rn.length-(RowKit.intOf i).toNat);exact⟨0,J4 _,rfl,λj h=>absurd h (y9 _),G5 _ _⟩;obtain⟨k,hk,rfl,hd,f⟩:=hrel;by_cases C:k<rn.length;rotate_left
 ·obtain rfl:k=rn.length:=O0;have HY:Hid (dG ms rn):=hd.out;go_wp2;go_ret;exact⟨J_ HY,f⟩
 obtain⟨ha,E,N⟩:=Jd HC.out C;subst ha;have I:=U0 f;have O:=U9 E f.size;obtain⟨d,c,gB,gL⟩:=(N k C).below E f;have U:Hid (wr.cell? (aA b (off+(k-1)*6))=some (vS (rn.getD (k-1) A_).nm)):=by
  obtain⟨_,_,g,_⟩:=(N (k-1) O0).below E f;exact g 0 _ rfl
 have hxs:=U0 (HS.out k);have F:Hid (¬((∃j,j<ms.length/\(ms.getD j L_).nm=(rn.getD k A_).nm)/\Zg (rn.getD k A_)/\(0<k->Op.bytesLess (rn.getD (k-1) A_).nm.toList (rn.getD k A_).nm.toList=true))->¬dG ms rn):=λD h=>D (h k C);have X:Hid (((∃j,j<ms.length/\(ms.getD j L_).nm=(rn.getD k A_).nm)/\Zg (rn.getD k A_)/\(0<k->Op.bytesLess (rn.getD (k-1) A_).nm.toList (rn.getD k A_).nm.toList=true))->∀i,i<k+1->(∃j,j<ms.length/\(ms.getD j L_).nm=(rn.getD i A_).nm)/\Zg (rn.getD i A_)/\(0<i->Op.bytesLess (rn.getD (i-1) A_).nm.toList (rn.getD i A_).nm.toList=true)):=λD j L=>by
  rcases D8 j k with h|h
  ·exact hd j h
  obtain rfl:j=k:=O0;exact D
 generalize rn.getD k A_=x at*;generalize rn.getD (k-1) A_=y at*;have GB:=U0 gB;have GL:=U0 gL
 go_upto_region 4 with(first|(refine Vb rfl (d_ 111 _ rfl (B:=b) (j:=off+k*6) (cs:=Ph (x,vL d x.ls.length c)) rfl GB.out underlying111 rfl Y1) ?_)|(refine I7 rfl 111 _ _ rfl (j:=0) rfl rfl (X4 wr [vE,vO,vE,vN,vO,vE] 111) X7 (bQ x d c) Y1 ?_;intro z cz oz))
 have J:Hid (Cl z wr.heap.size 111 [vS x.nm,vI x.md,vS x.wt,vL d x.ls.length c,vI x.cd,vS x.tx]):=cz;have BZ:=U0 ((Y6 (w:=wr) (o:=.cells #[vE,vO,vE,vN,vO,vE] 111)).trans (oz.below X7));have r0:=J.out.cell 0;simp only[gz]at r0
 go_wp2_with fail
 refine(G.a5A pa pc ms x.nm z hm (G.gm HK (J5 I BZ)) HA).mono ?_;rintro e w1⟨⟨m,th,rfl,n⟩,hb1⟩
 go_upto_region 5 with fail
 have BM:=U0 (J5 hb1 (Y6 (w:=w1) (o:=.cells #[vS m.nm,vS m.tl,vS m.ar] 69)));generalize w1.alloc (.cells #[vS m.nm,vS m.tl,vS m.ar] 69)=V at*;have Y:=U0 (J.out.below BM J.out.lt);have A:=U0 (J5 BZ BM);have p:Bw V V.drew:=(G5 _ _).drew;have t:=U0 (Y.out.below p Y.out.lt);have HQ:=U0 (J5 I A);refine wp_region_held_drew (S:=λu=>Cl u wr.heap.size 111 [vS x.nm,vI x.md,vS x.wt,vL d x.ls.length c,vI x.cd,vS x.tx]/\u.cell? (aA b (off+(k-1)*6))=some (vS y.nm)/\u.cell? (aW wr 0)=some (vS x.nm)) Y1 ⟨t,((J5 A p).cell (by exact O)).trans U,t.out.cell 0⟩ λhH=>?_
 cases th with
 | false=>
  have l:=U0 (F.out (λh=>by
   rcases n with⟨h,_⟩|⟨_,n⟩
   ·cases h
   obtain⟨j,L,e⟩:=h.1;exact n j L e))
  iterate 22 refine sq ?_
  refine wdn ?_;go_wp2;go_ret;exact⟨X5 l,HQ.out.drew⟩
 | true=>
  have W:Hid (∃j,j<ms.length/\(ms.getD j L_).nm=x.nm):=by
   rcases n with⟨_,i,hi,e1,e2⟩|⟨h,_⟩
   ·exact⟨i,hi,by rw[e1];exact e2⟩
   cases h
  iterate 3 refine sq ?_
  refine tq 3 hH ?_ (hv:=λu hu=>d_ 111 _ rfl (B:=wr.heap.size) (j:=0) (cs:=[vS x.nm,vI x.md,vS x.wt,vL d x.ls.length c,vI x.cd,vS x.tx]) rfl (λq v e=>by rw[o9];exact(hu.1.cell q).trans e) underlying111 rfl Y1)
  try simp only[qq]
  refine rq 4 λK hK=>?_;go_simp;refine(a3o x d c V.drew hxs (U7 GL (J5 A p))).mono ?_;rintro e w2⟨⟨bo,rfl,P⟩,Q⟩;have B2:=U0 (J5 A (p.trans (Q.mono X7)));have Z:=U0 (t.out.below Q t.out.lt);have s:=U0 (J5 I B2);have HP2:=U0 (((B2).cell (by exact O)).trans U)
  go_wp2_with fail
  refine A8 hK ⟨Z,HP2,Z.out.cell 0⟩ λhH=>?_
  cases bo with
  | false=>
   have l:=U0 (F.out (λh=>by have:=P.2 h.2.1;cases this))
   iterate 17 refine sq ?_
   refine wdn ?_;go_wp2;go_ret;exact⟨X5 l,s⟩
  | true=>
   have R:=U0 (P.1 rfl);by_cases h0:k=0
   ·have H:=U0 (X.out ⟨W,R,λh=>O0⟩);have zk:¬(0:Int)<k:=O0;subst h0
    iterate 17 refine sq ?_
    refine wdn ?_;go_wp2;go_roundw;exact⟨0+1,O0,by go_num,H,s.out⟩;exact Z9
   have zk:(0:Int)<k:=O0;have zs1:(k:Int)-1=((k-1:Nat):Int):=O0;have hk1:k-1<rn.length:=O0
   iterate 5 refine sq ?_
   rw[show decide (0<k)=true from X_ O0]
   iterate 4 refine sq ?_
   rw[T.Nb (k-1) O0]
   iterate 6 refine sq ?_
   by_cases r:Op.bytesLess y.nm.toList x.nm.toList=true
   ·have H:=U0 (X.out ⟨W,R,λ_=>r⟩);rw[r,OJ]
    iterate 2 refine sq ?_
    refine wdn ?_;go_wp2;go_roundw;exact⟨k+1,O0,by go_num,H,s.out⟩;exact Z9
   have l:=U0 (F.out (λh=>r (h.2.2 O0)));rw[Ji.2 r,UI]
   iterate 2 refine sq ?_
   refine wdn ?_;go_wp2;go_ret;exact⟨X5 l,s⟩
def Fit(j:Jb)(x:Rn):Prop:=x.nm=j.nm/\x.md=1/\x.wt=⟨#[]⟩
theorem a4y(x:Rn)(j:Jb)(J:Nat)(b:OA)(a:Nat)(w:World)(f:w.cell? ⟨J,0,none⟩=some (.string j.nm))(m:J<w.heap.size):
 Calls prog 211 #[.agg #[.string x.nm,.int .i64 x.md,.string x.wt,.slice b x.ls.length a,.int .i64 x.cd,.string x.tx],.pointer (some ⟨J,0,none⟩)] w λe w'=>Rb (Fit j x) e/\Bw w w':=by
 go_in
 go_upto_region 1 with fail
 have l:=U0 (X4 w [vS x.nm,vI x.md,vS x.wt,vL b x.ls.length a,vI x.cd,vS x.tx] 111);have d:=U0 (Y6 (w:=w) (o:=.cells #[vS x.nm,vI x.md,vS x.wt,vL b x.ls.length a,vI x.cd,vS x.tx] 111))
 replace f:=(d.out.cell (by exact m)).trans f
 generalize w.alloc (.cells #[vS x.nm,vI x.md,vS x.wt,vL b x.ls.length a,vI x.cd,vS x.tx] 111)=V at*;have i:=l.out.cell 0;simp only[gz]at i;by_cases h:x.nm=j.nm;rotate_left
 ·have p:Hid (¬Fit j x):=λk=>h k.1;have z:=V_.2 (Mc h);go_wp2;go_ret;exact⟨X5 p,d⟩
 have z:(x.nm.toList==j.nm.toList)=true:=by rw[h];exact beq_self_eq_true _
 have q:=U0 h;clear h
 go_wp2_with(refine xw rfl 111 _ rfl (B:=w.heap.size) rfl l.out underlying111 rfl Y1 ?_)
 refine(c212 x b a V).mono ?_;rintro e w1⟨⟨n,rfl,c⟩,g⟩;have r:Hid (n=true↔Fit j x):=⟨λh=>⟨q,c.1 h⟩,λh=>c.2 h.2⟩;have s:=U0 (J5 d g);clear c g z i;go_wp2;go_ret;exact⟨⟨_,rfl,r⟩,s⟩
theorem a4I(a:OA)(cap:Nat)(rn:List Rn)(j:Jb)(J:Nat)(w:World)(hl:rn.length<=1048576)(n:yj w a rn)(g:w.cell? ⟨J,0,none⟩=some (.string j.nm))(o:J<w.heap.size):
 Calls prog 255 #[.slice a rn.length cap,.func (.func 211) #[] #[.pointer (some ⟨J,0,none⟩)]] w λe w'=>(∃r:Int,e=.returned (.int .i64 r)/\(0<=r↔∃i,i<rn.length/\Fit j (rn.getD i A_)))/\Bw w w':=by
 obtain⟨D,off,hc⟩:=Na n;have L:=U0 hc;have H:=U0 g;clear n hc g
 go_in
 go_wp2;go_loopw[8] (λi wr=>∃k:Nat,k<=rn.length/\i=.int .i64 k/\Hid (∀t,t<k->¬Fit j (rn.getD t A_))/\Below w.heap.size w wr) (λi _=>rn.length-(RowKit.intOf i).toNat);exact⟨0,J4 _,rfl,λj h=>absurd h (y9 _),G5 _ _⟩;obtain⟨k,hk,rfl,hd,b⟩:=hrel;by_cases d:k<rn.length;rotate_left
 ·obtain rfl:k=rn.length:=O0;have f:Hid ((0:Int)<= -1↔∃i,i<rn.length/\Fit j (rn.getD i A_)):=⟨λh=>O0,λ⟨i,h1,h2⟩=>absurd h2 (hd i h1)⟩;go_wp2;go_ret;exact⟨⟨_,rfl,f⟩,b⟩
 obtain⟨ha,y,l⟩:=Jd L.out d;subst ha;obtain⟨s,q,p,A⟩:=(l k d).below y b;have f:Hid (Fit j (rn.getD k A_)->((0:Int)<=(k:Int)↔∃i,i<rn.length/\Fit j (rn.getD i A_))):=λh=>⟨λ_=>⟨k,d,h⟩,λ_=>O0⟩;have K:Hid (¬Fit j (rn.getD k A_)->∀t,t<k+1->¬Fit j (rn.getD t A_)):=λv t ht=>by
  rcases D8 t k with h|h
  ·exact hd t h
  obtain rfl:t=k:=O0;exact v
 generalize rn.getD k A_=x at*;have N:=U0 p;have F:=U0 ((b.cell (by exact o)).trans H);have z:=U9 o b.size;clear l hd p A
 go_wp2_with(refine Vb rfl (d_ 111 _ rfl (B:=D) (j:=off+k*6) (cs:=[vS x.nm,vI x.md,vS x.wt,vL s x.ls.length q,vI x.cd,vS x.tx]) rfl N.out underlying111 rfl Y1) ?_)
 refine(a4y x j J s q wr F z).mono ?_;rintro e w1⟨⟨C,rfl,c⟩,m⟩;have u:=U0 (J5 b m);clear m
 cases C with
 | true=>
  have E:=U0 (f.out (c.1 rfl));clear c;go_wp2;go_ret;exact⟨⟨_,rfl,E⟩,u⟩
 | false=>
  have I:=U0 (K.out (λh=>by have:=c.2 h;cases this));clear c;go_wp2;go_roundw;exact⟨k+1,O0,by go_num,I,u.out⟩;exact Z9
theorem c210(a:OA)(cap:Nat)(rn:List Rn)(j:Jb)(J:Nat)(w:World)(hl:rn.length<=1048576)(d:yj w a rn)(b:w.cell? ⟨J,0,none⟩=some (.string j.nm))(l:J<w.heap.size):
 Calls prog 210 #[.slice a rn.length cap,.func (.func 211) #[] #[.pointer (some ⟨J,0,none⟩)]] w λe w'=>Rb (∃i,i<rn.length/\Fit j (rn.getD i A_)) e/\Bw w w':=by
 have hc:=a4I a cap rn j J w hl d b l;clear d b
 go_in
 go_wp2_with fail
 refine hc.mono ?_;rintro e w1⟨⟨r,rfl,hr⟩,c⟩;have g:=U0 c;have f:=U0 hr;clear hc c hr;by_cases h:0<=r
 ·have m:=U0 (f.out.1 h);go_wp2;go_ret;exact⟨J_ m,g⟩
 have n:=U0 (λk=>h (f.out.2 k));have z:r<0:=O0;clear h;go_wp2;go_ret;exact⟨⟨_,rfl,⟨λh=>by simp at h;omega,λh=>absurd h n.out⟩⟩,g.out⟩
def jy(b:Bs)(j:Jb):Prop:=(∃i,i<b.rn.length/\Fit j (b.rn.getD i A_))/\(1<=j.wk/\j.wk<=b.hd.length)/\(b.now<=j.un/\j.un<=b.now+6)
theorem c157(b:Bs)(q:Ba)(j:Jb)(w:World)(hl:Ug b 1048576)(hn1:0<=b.now)(hn2:b.now<=1000000)(s:yj w q.na b.rn):
 Calls prog 157 #[.agg (bsV b q).toArray,.agg #[.string j.nm,.int .i64 j.wk,.int .i64 j.un]] w λe w'=>Rb (jy b j) e/\Bw w w':=by
 have r:IntKind.i64.wrap (b.now+6)=b.now+6:=by rw[BJ];omega
 have hhl:=hl.hl;have z:=hl.nl;have C:=U0 s;clear s hl
 go_in
 go_upto_region 1 with fail
 have d:=U0 (U8 (X4 w (bsV b q) 47) (.cells #[vS j.nm,vI j.wk,vI j.un] 127));have c:Hid (Cl ((w.alloc (.cells (bsV b q).toArray 47)).alloc (.cells #[vS j.nm,vI j.wk,vI j.un] 127)) (w.heap.size+1) 127 [vS j.nm,vI j.wk,vI j.un]):=by show Cl _ _ _ _;have h:=X4 (w.alloc (.cells (bsV b q).toArray 47)) [vS j.nm,vI j.wk,vI j.un] 127;simpa using h
 have p:Hid (Bw w ((w.alloc (.cells (bsV b q).toArray 47)).alloc (.cells #[vS j.nm,vI j.wk,vI j.un] 127))):=Y6.alloc E5 _;generalize (w.alloc (.cells (bsV b q).toArray 47)).alloc (.cells #[vS j.nm,vI j.wk,vI j.un] 127)=V at*;have a2:=d.out.cell 2;have n:=d.out.cell 11;have u:=d.out.cell 13;simp only[gz]at a2 n u;have o:=c.out.cell 0;have m:=c.out.cell 1;have l:=c.out.cell 2;simp only[gz]at o m l
 go_wp2_with fail
 refine(c210 q.na q.nc b.rn j (w.heap.size+1) V z (Ff C p) o c.out.lt).mono ?_;rintro e w1⟨⟨A,rfl,g⟩,i⟩;have y:=U0 (d.out.below i d.out.lt);have x:=U0 (c.out.below i c.out.lt);have f:=U0 (J5 p i);clear i a2 n u o m l d c p;have a2:=y.out.cell 2;have n:=y.out.cell 11;simp only[gz]at a2 n;have m:=x.out.cell 1;have l:=x.out.cell 2;simp only[gz]at m l
 cases A with
 | false=>
  have a:Hid (¬jy b j):=λh=>by have:=g.2 h.1;cases this
  clear g;go_wp2;go_ret;exact⟨X5 a,f⟩
 | true=>
 have B:=U0 (g.1 rfl);clear g;by_cases h1:1<=j.wk;rotate_left
 ·have a:Hid (¬jy b j):=λh=>h1 h.2.1.1;go_wp2;go_ret;exact⟨X5 a,f⟩
 by_cases h2:j.wk<=b.hd.length;rotate_left
 ·have a:Hid (¬jy b j):=λh=>h2 h.2.1.2;go_wp2;go_ret;exact⟨X5 a,f⟩
 by_cases t:b.now<=j.un;rotate_left
 ·have a:Hid (¬jy b j):=λh=>t h.2.2.1;go_wp2;go_ret;exact⟨X5 a,f⟩
 by_cases k:j.un<=b.now+6
 ·have v:Hid (jy b j):=⟨B,⟨h1,h2⟩,t,k⟩;go_wp2;go_ret;exact⟨by first|exact J_ v.out|(rw[r,X_ k];exact J_ v),f⟩
 have a:Hid (¬jy b j):=λh=>k h.2.2.2;go_wp2;go_ret;exact⟨by first|exact X5 a.out|(rw[r,o_ k];exact X5 a)|exact⟨_,rfl,⟨λh=>by simp at h;omega,λh=>absurd h a.out⟩⟩,f.out⟩
def dm(j x:Jb):Prop:=x.wk=j.wk\/Op.bytesLess x.nm.toList j.nm.toList=false
theorem c156(x j:Jb)(J:Nat)(w:World)(h0:w.cell? ⟨J,0,none⟩=some (.string j.nm))(h1:w.cell? ⟨J,1,none⟩=some (.int .i64 j.wk))(d:J<w.heap.size):
 Calls prog 156 #[.agg #[.string x.nm,.int .i64 x.wk,.int .i64 x.un],.pointer (some ⟨J,0,none⟩)] w λe w'=>Rb (dm j x) e/\Bw w w':=by
 go_in
 go_upto_region 1 with fail
 have f:=U0 (X4 w [vS x.nm,vI x.wk,vI x.un] 127);have a:=U0 (Y6 (w:=w) (o:=.cells #[vS x.nm,vI x.wk,vI x.un] 127))
 replace h0:=(a.out.cell (by exact d)).trans h0
 replace h1:=(a.out.cell (by exact d)).trans h1
 generalize w.alloc (.cells #[vS x.nm,vI x.wk,vI x.un] 127)=V at*;have g:=f.out.cell 0;have a1:=f.out.cell 1;simp only[gz]at g a1;by_cases h:x.wk=j.wk
 ·have c:Hid (dm j x):=.inl h;rw[h]at a1;go_wp2;go_ret;exact⟨J_ c,a⟩
 have z:=V_.2 h;by_cases b:Op.bytesLess x.nm.toList j.nm.toList=true
 ·have i:Hid (¬dm j x):=λk=>by
   rcases k with k|k
   ·exact h k
   rw[b]at k;cases k
  go_wp2;go_ret;exact⟨X5 i,a⟩
 have c:Hid (dm j x):=.inr (Ji.2 b);have z2:=Ji.2 b;go_wp2;go_ret;exact⟨J_ c,a⟩
theorem a3A(a:OA)(cap:Nat)(rn:List Jb)(j:Jb)(J:Nat)(w:World)(hl:rn.length<=1048576)(o:ak w a rn)(h0:w.cell? ⟨J,0,none⟩=some (.string j.nm))(h1:w.cell? ⟨J,1,none⟩=some (.int .i64 j.wk))(l:J<w.heap.size):
 Calls prog 209 #[.slice a rn.length cap,.func (.func 156) #[] #[.pointer (some ⟨J,0,none⟩)]] w λe w'=>(∃r:Int,e=.returned (.int .i64 r)/\(0<=r↔∃i,i<rn.length/\dm j (rn.getD i ve)))/\Bw w w':=by
 obtain⟨bb,off,hc⟩:=Na o;have E:=U0 hc;have B:=U0 h0;have z:=U0 h1;clear o hc h0 h1
 go_in
 go_wp2;go_loopw[8] (λi wr=>∃k:Nat,k<=rn.length/\i=.int .i64 k/\Hid (∀t,t<k->¬dm j (rn.getD t ve))/\Below w.heap.size w wr) (λi _=>rn.length-(RowKit.intOf i).toNat);exact⟨0,J4 _,rfl,λj h=>absurd h (y9 _),G5 _ _⟩;obtain⟨k,hk,rfl,hd,b⟩:=hrel;by_cases c:k<rn.length;rotate_left
 ·obtain rfl:k=rn.length:=O0;have m:Hid ((0:Int)<= -1↔∃i,i<rn.length/\dm j (rn.getD i ve)):=⟨λh=>O0,λ⟨i,h1,h2⟩=>absurd h2 (hd i h1)⟩;go_wp2;go_ret;exact⟨⟨_,rfl,m⟩,b⟩
 obtain⟨ha,g,d⟩:=Jd E.out c;subst ha;have g0:=((d k c).below g b) 0 _ rfl;have g1:=((d k c).below g b) 1 _ rfl;have g2:=((d k c).below g b) 2 _ rfl;dsimp only[Nat.add_zero]at g0;have m:Hid (dm j (rn.getD k ve)->((0:Int)<=(k:Int)↔∃i,i<rn.length/\dm j (rn.getD i ve))):=λh=>⟨λ_=>⟨k,c,h⟩,λ_=>O0⟩;have D:Hid (¬dm j (rn.getD k ve)->∀t,t<k+1->¬dm j (rn.getD t ve)):=λq t ht=>by
  rcases D8 t k with h|h
  ·exact hd t h
  obtain rfl:t=k:=O0;exact q
 generalize rn.getD k ve=x at*;have A:=U0 ((b.cell (by exact l)).trans B);have y:=U0 ((b.cell (by exact l)).trans z);have s:=U9 l b.size;clear d hd
 go_wp2_with fail
 refine(c156 x j J wr A y s).mono ?_;rintro e w1⟨⟨u,rfl,f⟩,n⟩;have p:=U0 (J5 b n);clear n g0 g1 g2
 cases u with
 | true=>
  have v:=U0 (m.out (f.1 rfl));clear f;go_wp2;go_ret;exact⟨⟨_,rfl,v⟩,p⟩
 | false=>
  have C:=U0 (D.out (λh=>by have:=f.2 h;cases this));clear f;go_wp2;go_roundw;exact⟨k+1,O0,by go_num,C,p.out⟩;exact Z9
theorem a3n(a:OA)(cap:Nat)(rn:List Jb)(j:Jb)(J:Nat)(w:World)(hl:rn.length<=1048576)(c:ak w a rn)(h0:w.cell? ⟨J,0,none⟩=some (.string j.nm))(h1:w.cell? ⟨J,1,none⟩=some (.int .i64 j.wk))(g:J<w.heap.size):
 Calls prog 155 #[.slice a rn.length cap,.func (.func 156) #[] #[.pointer (some ⟨J,0,none⟩)]] w λe w'=>Rb (∃i,i<rn.length/\dm j (rn.getD i ve)) e/\Bw w w':=by
 have hc:=a3A a cap rn j J w hl c h0 h1 g;clear c h0 h1
 go_in
 go_wp2_with fail
 refine hc.mono ?_;rintro e w1⟨⟨r,rfl,hr⟩,b⟩;have f:=U0 b;have d:=U0 hr;clear hc b hr;by_cases h:0<=r
 ·have l:=U0 (d.out.1 h);go_wp2;go_ret;exact⟨J_ l,f⟩
 have m:=U0 (λk=>h (d.out.2 k));have z:r<0:=O0;clear h;go_wp2;go_ret;exact⟨⟨_,rfl,⟨λh=>by simp at h;omega,λh=>absurd h m.out⟩⟩,f.out⟩
theorem c65(b:Bs)(q:Ba)(ms:List M3)(w:World)(hl:Ug b 1048576)(hp:G.dh b.fs ms)(hat:Gh w b q):
 Calls prog 65 #[.agg #[.int .i64 b.wd,.bool b.up,.int .i64 b.now,.int .i64 b.ep,.int .i64 b.ed,.slice q.sa b.sf.length q.sc,.slice q.la b.lo.length q.lc,.slice q.fa b.fs.length q.fc,.int .i64 b.s.wd,.slice q.ta b.s.ts.length q.tc,.slice q.ra b.s.rs.length q.rc,.slice q.ha b.hd.length q.hc,.slice q.oa b.rt.length q.oc,.slice q.na b.rn.length q.nc,.slice q.ja b.jb.length q.jc]] w λe w'=>Rb (dG ms b.rn) e/\Bw w w':=by
 have HA:=U0 hat;have HL0:=U0 hl;have hrl:=hl.nl;have HPT:=U0 hp;obtain⟨bb,off,hc⟩:=Na hat.rn;have HC:=U0 hc;clear hat hl hc hp
 go_in
 go_upto_region 1 with fail
 have C0:=U0 (X4 w [vI b.wd,.bool b.up,vI b.now,vI b.ep,vI b.ed,vL q.sa b.sf.length q.sc,vL q.la b.lo.length q.lc,vL q.fa b.fs.length q.fc,vI b.s.wd,vL q.ta b.s.ts.length q.tc,vL q.ra b.s.rs.length q.rc,vL q.ha b.hd.length q.hc,vL q.oa b.rt.length q.oc,vL q.na b.rn.length q.nc,vL q.ja b.jb.length q.jc] 47);have B0:=U0 (Y6 (w:=w) (o:=.cells #[vI b.wd,.bool b.up,vI b.now,vI b.ep,vI b.ed,vL q.sa b.sf.length q.sc,vL q.la b.lo.length q.lc,vL q.fa b.fs.length q.fc,vI b.s.wd,vL q.ta b.s.ts.length q.tc,vL q.ra b.s.rs.length q.rc,vL q.ha b.hd.length q.hc,vL q.oa b.rt.length q.oc,vL q.na b.rn.length q.nc,vL q.ja b.jb.length q.jc] 47));generalize w.alloc (.cells #[vI b.wd,.bool b.up,vI b.now,vI b.ep,vI b.ed,vL q.sa b.sf.length q.sc,vL q.la b.lo.length q.lc,vL q.fa b.fs.length q.fc,vI b.s.wd,vL q.ta b.s.ts.length q.tc,vL q.ra b.s.rs.length q.rc,vL q.ha b.hd.length q.hc,vL q.oa b.rt.length q.oc,vL q.na b.rn.length q.nc,vL q.ja b.jb.length q.jc] 47)=V0 at*;go_wp2;go_loopw[3] (λi wr=>∃k:Nat,k<=b.rn.length/\i=.int .i64 k/\Hid (∀i,i<k->(∃j,j<ms.length/\(ms.getD j L_).nm=(b.rn.getD i A_).nm)/\Zg (b.rn.getD i A_)/\(0<i->Op.bytesLess (b.rn.getD (i-1) A_).nm.toList (b.rn.getD i A_).nm.toList=true))/\Hid (Cl wr w.heap.size 47 [.int .i64 b.wd,.bool b.up,.int .i64 b.now,.int .i64 b.ep,.int .i64 b.ed,.slice q.sa b.sf.length q.sc,.slice q.la b.lo.length q.lc,.slice q.fa b.fs.length q.fc,.int .i64 b.s.wd,.slice q.ta b.s.ts.length q.tc,.slice q.ra b.s.rs.length q.rc,.slice q.ha b.hd.length q.hc,.slice q.oa b.rt.length q.oc,.slice q.na b.rn.length q.nc,.slice q.ja b.jb.length q.jc])/\Below w.heap.size w wr) (λi _=>b.rn.length-(RowKit.intOf i).toNat);exact⟨0,J4 _,rfl,λj h=>absurd h (y9 _),C0,B0.out⟩;obtain⟨k,hk,rfl,hd,J,hb⟩:=hrel;have I:=U0 hb;clear hb;have Q:=J.out.cell 7;have a13:=J.out.cell 13;simp only[gz]at Q a13;by_cases hlt:k<b.rn.length;rotate_left
 ·obtain rfl:k=b.rn.length:=O0;have HY:Hid (dG ms b.rn):=hd.out;go_wp2;go_ret;exact⟨J_ HY.out,I.out⟩
 obtain⟨ha,hbw,hcell⟩:=Jd HC.out hlt;have a6w:=U9 hbw I.out.size;obtain⟨P,O,gB,gL⟩:=(hcell k hlt).below hbw I.out;have HP:Hid (wr.cell? (aA bb (off+(k-1)*6))=some (vS (b.rn.getD (k-1) A_).nm)):=by
  obtain⟨_,_,g,_⟩:=(hcell (k-1) O0).below hbw I.out;exact g 0 _ rfl
 have N:=U0 (HL0.out.ns k);have l:Hid (¬((∃j,j<ms.length/\(ms.getD j L_).nm=(b.rn.getD k A_).nm)/\Zg (b.rn.getD k A_)/\(0<k->Op.bytesLess (b.rn.getD (k-1) A_).nm.toList (b.rn.getD k A_).nm.toList=true))->¬dG ms b.rn):=λhg h=>hg (h k hlt);have HD:Hid (((∃j,j<ms.length/\(ms.getD j L_).nm=(b.rn.getD k A_).nm)/\Zg (b.rn.getD k A_)/\(0<k->Op.bytesLess (b.rn.getD (k-1) A_).nm.toList (b.rn.getD k A_).nm.toList=true))->∀i,i<k+1->(∃j,j<ms.length/\(ms.getD j L_).nm=(b.rn.getD i A_).nm)/\Zg (b.rn.getD i A_)/\(0<i->Op.bytesLess (b.rn.getD (i-1) A_).nm.toList (b.rn.getD i A_).nm.toList=true)):=λhg j hj=>by
  rcases D8 j k with h|h
  ·exact hd.out j h
  obtain rfl:j=k:=O0;exact hg
 generalize b.rn.getD k A_=x at*;generalize b.rn.getD (k-1) A_=y at*;have GB:=U0 gB;have GL:=U0 gL;rw[ha]at a13;have HAq:=U0 ha;clear hcell hd gB gL ha
 go_upto_region 5 with(first|(refine Vb rfl (d_ 111 _ rfl (B:=bb) (j:=off+k*6) (cs:=Ph (x,vL P x.ls.length O)) rfl GB.out underlying111 rfl Y1) ?_)|(refine I7 rfl 111 _ _ rfl (j:=0) rfl rfl (X4 wr [vE,vO,vE,vN,vO,vE] 111) X7 (bQ x P O) Y1 ?_;intro z cz oz))
 have CZ:Hid (Cl z wr.heap.size 111 [vS x.nm,vI x.md,vS x.wt,vL P x.ls.length O,vI x.cd,vS x.tx]):=cz;have BZ:=U0 ((Y6 (w:=wr) (o:=.cells #[vE,vO,vE,vN,vO,vE] 111)).trans (oz.below X7));clear cz oz;have Crz:=U0 (J.out.below BZ.out J.out.lt);clear Q a13;have Q:=Crz.out.cell 7;simp only[gz]at Q;have r0:=CZ.out.cell 0;simp only[gz]at r0
 go_wp2_with fail
 refine(G.a4s q.fa q.fc b.fs x.nm z HL0.out.fl HL0.out.fz (T.U5 HA.out.fs (J5 I.out BZ.out))).mono ?_;rintro e w1⟨⟨ms',hp',m,th,rfl,D⟩,hb1⟩;obtain rfl:=G.VB hp' HPT.out;clear r0 Q hp'
 go_upto_region 6 with fail
 have BM:=U0 (J5 hb1 (Y6 (w:=w1) (o:=.cells #[vS m.nm,vS m.tl,vS m.ar] 69)));generalize w1.alloc (.cells #[vS m.nm,vS m.tl,vS m.ar] 69)=V at*;have CV:=U0 (CZ.out.below BM.out CZ.out.lt);have BV:=U0 (J5 BZ.out BM.out);have r:=U0 (J.out.below BV.out J.out.lt);have F:Bw V V.drew:=(G5 _ _).drew;have CD:=U0 (CV.out.below F CV.out.lt);have HQ:=U0 (J5 I.out BV.out);clear hb1 CZ BZ BM Crz;have S:Hid (∀u,Bw V u->u.cell? (aW w 13)=some (vL (some (aA bb off)) b.rn.length q.nc)/\u.cell? (aA bb (off+(k-1)*6))=some (vS y.nm)/\u.cell? (aW wr 0)=some (vS x.nm)/\u.cell? (aW wr 1)=some (vI x.md)/\u.cell? (aW wr 2)=some (vS x.wt)/\u.cell? (aW wr 3)=some (vL P x.ls.length O)):=λu hu=>by
  have h1:=r.out.below hu r.out.lt;have h2:=CV.out.below hu CV.out.lt;refine⟨(h1.cell 13).trans (by rw[HAq.out];rfl),((J5 BV.out hu).cell (by exact a6w)).trans HP.out,h2.cell 0,h2.cell 1,h2.cell 2,h2.cell 3⟩
 refine FI S F Y1 λhH=>?_
 cases th with
 | false=>
  have a:=U0 (l.out (λh=>by
   rcases D with⟨h,_⟩|⟨_,D⟩
   ·cases h
   obtain⟨j,hj,e⟩:=h.1;exact D j hj e))
  clear D
  iterate 41 refine sq ?_
  refine wdn ?_;go_wp2;go_ret;exact⟨X5 a.out,HQ.out.drew⟩
 | true=>
 have HM:Hid (∃j,j<ms'.length/\(ms'.getD j L_).nm=x.nm):=by
  rcases D with⟨_,i,hi,e1,e2⟩|⟨h,_⟩
  ·exact⟨i,hi,by rw[e1];exact e2⟩
  cases h
 clear D
 iterate 5 refine sq ?_
 by_cases h0:0<k;rotate_left
 focus
  have HLS:Hid (0<k->Op.bytesLess y.nm.toList x.nm.toList=true):=λh=>absurd h h0;rw[o_ h0]
  iterate 16 refine sq ?_
 rotate_left
 focus
  rw[X_ h0]
  iterate 5 refine sq ?_
  have hk1:k-1<b.rn.length:=O0;rw[show(k:Int)-1=((k-1:Nat):Int) by omega,T.Nb (k-1) O0]
  iterate 6 refine sq ?_
  by_cases Y:Op.bytesLess y.nm.toList x.nm.toList=true;rotate_left
  ·have a:=U0 (l.out (λh=>Y (h.2.2 h0)));rw[Ji.2 Y,UI]
   iterate 25 refine sq ?_
   refine wdn ?_;go_wp2;go_ret;exact⟨X5 a.out,HQ.out.drew⟩
  have HLS:Hid (0<k->Op.bytesLess y.nm.toList x.nm.toList=true):=λ_=>Y;rw[Y,OJ]
  iterate 5 refine sq ?_
 all_goals
  refine rq 21 λK f=>?_;go_simp;refine(c59 x.md 0 2 V.drew).mono ?_;rintro e w7⟨rfl,hw7⟩;obtain rfl:=hw7.symm;by_cases hmd:0<=x.md/\x.md<=2;rotate_left
  ·have a:=U0 (l.out (λh=>hmd (by rcases h.2.1.2 with⟨h,_⟩|⟨h,_⟩<;>omega)));rw[o_ hmd]
   go_wp2_with fail
   refine A8 f (S.out _ F) λhH=>?_;clear f K
   iterate 19 refine sq ?_
   refine wdn ?_;go_wp2;go_ret;exact⟨X5 a.out,HQ.out.drew⟩
  rw[X_ hmd]
  go_wp2_with fail
  refine A8 f (S.out _ F) λhH=>?_;clear f K
  iterate 5 refine sq ?_
  refine rq 27 λK f=>?_;go_simp;refine(c119 P O x.ls V.drew N.out.2.2.1.1 N.out.2.2.1.2 (U7 GL.out (J5 BV.out F))).mono ?_;rintro e w8⟨⟨bo,rfl,hbo⟩,hb8⟩;have L:=U0 (F.trans (hb8.mono X7));have A:=U0 (J5 HQ.out L.out);have c:=U0 (CD.out.below hb8 CD.out.lt);clear hb8
  go_wp2_with fail
  refine A8 f (S.out _ L.out) λhH=>?_;clear f K
  cases bo with
  | false=>
   have a:=U0 (l.out (λh=>by have:=hbo.2 h.2.1.1;cases this));clear hbo
   iterate 13 refine sq ?_
   refine wdn ?_;go_wp2;go_ret;exact⟨X5 a.out,A.out⟩
  | true=>
  have HL:=U0 (hbo.1 rfl);clear hbo
  iterate 5 refine sq ?_
  by_cases E:x.wt=⟨#[]⟩
  focus
   have HWT:Hid (oP x.wt):=.inl E;have z:(x.wt.toList==([]:List UInt8))=true:=by rw[E,ByteArray.toList_eq];rfl
   iterate 8 refine sq ?_
   refine wdn ?_;have v:=c.out.cell 1;have d:=c.out.cell 2;have t:=c.out.cell 4;have C:=c.out.cell 5;simp only[gz]at v d t C;by_cases h2:x.md=2
   ·rw[h2]at v;have R:=U0 (zQ x.cd x.tx w8 (by have:=N.out.2.2.2;omega))
    go_wp2_with fail
    refine R.out.mono ?_;rintro e w9⟨rfl,n⟩;have C9:=U0 (c.out.below n c.out.lt);have H:=U0 (J5 A.out n);have K9:=U0 (r.out.below (J5 L.out n) r.out.lt);clear n R v d t C;have d:=C9.out.cell 2;simp only[gz]at d;by_cases hv:vr x.cd x.tx.data.toList=true
    ·rw[hv];by_cases p:x.wt=⟨#[]⟩
     ·have U:=U0 (HD.out ⟨HM.out,⟨HL.out,.inr ⟨h2,hv,p⟩⟩,HLS.out⟩);rw[p]at d;go_wp2;go_roundw;exact⟨k+1,O0,by go_num,U,K9,H.out⟩;exact Z9
     exact absurd E p
    rw[Ji.2 hv];have a:=U0 (l.out (λh=>by
     rcases h.2.1.2 with⟨h,_⟩|⟨_,h,_⟩
     ·omega
     exact hv h))
    go_wp2;go_ret;exact⟨X5 a.out,H.out⟩
  rotate_left
  focus
   have z:=Zk E
   iterate 4 refine sq ?_
   refine rq 37 λK f=>?_;go_simp;refine(VO x.wt w8 (by have:=N.out.2.1;omega)).mono ?_;rintro e w7⟨rfl,hw7⟩;obtain rfl:=hw7.symm
   go_wp2_with fail
   refine A8 f (S.out _ L.out) λhH=>?_;clear f K;by_cases X:X6 x.wt.data.toList=true;rotate_left
   ·have a:=U0 (l.out (λh=>by
     rcases h.2.1.2 with⟨_,_,h⟩|⟨_,_,h⟩
     ·exact X (h.resolve_left E)
     exact E h))
    rw[Ji.2 X]
    iterate 3 refine sq ?_
    refine wdn ?_;go_wp2;go_ret;exact⟨X5 a.out,A.out⟩
   have HWT:Hid (oP x.wt):=.inr X;rw[X]
   iterate 3 refine sq ?_
   refine wdn ?_;have v:=c.out.cell 1;have d:=c.out.cell 2;have t:=c.out.cell 4;have C:=c.out.cell 5;simp only[gz]at v d t C;by_cases h2:x.md=2
   ·rw[h2]at v;have R:=U0 (zQ x.cd x.tx w8 (by have:=N.out.2.2.2;omega))
    go_wp2_with fail
    refine R.out.mono ?_;rintro e w9⟨rfl,n⟩;have C9:=U0 (c.out.below n c.out.lt);have H:=U0 (J5 A.out n);have K9:=U0 (r.out.below (J5 L.out n) r.out.lt);clear n R v d t C;have d:=C9.out.cell 2;simp only[gz]at d;by_cases hv:vr x.cd x.tx.data.toList=true
    ·rw[hv];by_cases p:x.wt=⟨#[]⟩
     ·have U:=U0 (HD.out ⟨HM.out,⟨HL.out,.inr ⟨h2,hv,p⟩⟩,HLS.out⟩);rw[p]at d;go_wp2;go_roundw;exact⟨k+1,O0,by go_num,U,K9,H.out⟩;exact Z9
     have z:=Zk p;have a:=U0 (l.out (λh=>by
      rcases h.2.1.2 with⟨h,_⟩|⟨_,_,h⟩
      ·omega
      exact p h))
     go_wp2;go_ret;exact⟨X5 a.out,H.out⟩
    rw[Ji.2 hv];have a:=U0 (l.out (λh=>by
     rcases h.2.1.2 with⟨h,_⟩|⟨_,h,_⟩
     ·omega
     exact hv h))
    go_wp2;go_ret;exact⟨X5 a.out,H.out⟩
  all_goals
   by_cases Z:x.cd=0;rotate_left
   ·have a:=U0 (l.out (λh=>by
     rcases h.2.1.2 with⟨_,h,_⟩|⟨h,_⟩
     ·exact Z h.1
     exact h2 h))
    go_wp2;go_ret;exact⟨X5 a.out,A.out⟩
   by_cases W:x.tx=⟨#[]⟩;rotate_left
   ·have a:=U0 (l.out (λh=>by
     rcases h.2.1.2 with⟨_,h,_⟩|⟨h,_⟩
     ·exact W h.2
     exact h2 h))
    have z:=Zk W;have z1:=V_.1 z;rw[Z]at t;go_wp2;go_ret;exact⟨X5 a.out,A.out⟩
   have U:=U0 (HD.out ⟨HM.out,⟨HL.out,.inl ⟨O0,⟨Z,W⟩,HWT.out⟩⟩,HLS.out⟩);rw[Z]at t;rw[W]at C;go_wp2;go_roundw;exact⟨k+1,O0,by go_num,U,r.out.below L.out r.out.lt,A.out⟩;exact Z9
def JbP(b:Bs)(i:Nat):Prop:=(∃t:Nat,t<b.rn.length/\(b.rn.getD t A_).nm=(b.jb.getD i ve).nm/\(∀j,j<t->(b.rn.getD j A_).nm≠(b.jb.getD i ve).nm)/\(b.rn.getD t A_).md=1/\(b.rn.getD t A_).wt=⟨#[]⟩)/\(0<i->Op.bytesLess (b.jb.getD (i-1) ve).nm.toList (b.jb.getD i ve).nm.toList=true)/\(1<=(b.jb.getD i ve).wk/\(b.jb.getD i ve).wk<=b.hd.length)/\(b.now<=(b.jb.getD i ve).un/\(b.jb.getD i ve).un<=b.now+6)/\∀j,j<i->(b.jb.getD j ve).wk≠(b.jb.getD i ve).wk
def JbS(b:Bs):Prop:=∀i,i<b.jb.length->JbP b i
theorem c66(b:Bs)(q:Ba)(w:World)(hl:Ug b 1048576)(hnw:0<=b.now/\b.now<=1000000)(hat:Gh w b q):
 Calls prog 66 #[.agg #[.int .i64 b.wd,.bool b.up,.int .i64 b.now,.int .i64 b.ep,.int .i64 b.ed,.slice q.sa b.sf.length q.sc,.slice q.la b.lo.length q.lc,.slice q.fa b.fs.length q.fc,.int .i64 b.s.wd,.slice q.ta b.s.ts.length q.tc,.slice q.ra b.s.rs.length q.rc,.slice q.ha b.hd.length q.hc,.slice q.oa b.rt.length q.oc,.slice q.na b.rn.length q.nc,.slice q.ja b.jb.length q.jc]] w λe w'=>Rb (JbS b) e/\Bw w w':=by
 obtain⟨hn1,hn2⟩:=hnw;have hw6:IntKind.i64.wrap (b.now+6)=b.now+6:=by rw[BJ];omega
 have HA:=U0 hat;have HL0:=U0 hl;have hjl:=hl.jl;have hrl:=hl.nl;have hhl:=hl.hl;obtain⟨D,C,hc⟩:=Na hat.jb;have HC:=U0 hc;clear hat hl hc
 go_in
 go_upto_region 1 with fail
 have C0:=U0 (X4 w [vI b.wd,.bool b.up,vI b.now,vI b.ep,vI b.ed,vL q.sa b.sf.length q.sc,vL q.la b.lo.length q.lc,vL q.fa b.fs.length q.fc,vI b.s.wd,vL q.ta b.s.ts.length q.tc,vL q.ra b.s.rs.length q.rc,vL q.ha b.hd.length q.hc,vL q.oa b.rt.length q.oc,vL q.na b.rn.length q.nc,vL q.ja b.jb.length q.jc] 47);have B0:=U0 (Y6 (w:=w) (o:=.cells #[vI b.wd,.bool b.up,vI b.now,vI b.ep,vI b.ed,vL q.sa b.sf.length q.sc,vL q.la b.lo.length q.lc,vL q.fa b.fs.length q.fc,vI b.s.wd,vL q.ta b.s.ts.length q.tc,vL q.ra b.s.rs.length q.rc,vL q.ha b.hd.length q.hc,vL q.oa b.rt.length q.oc,vL q.na b.rn.length q.nc,vL q.ja b.jb.length q.jc] 47));generalize w.alloc (.cells #[vI b.wd,.bool b.up,vI b.now,vI b.ep,vI b.ed,vL q.sa b.sf.length q.sc,vL q.la b.lo.length q.lc,vL q.fa b.fs.length q.fc,vI b.s.wd,vL q.ta b.s.ts.length q.tc,vL q.ra b.s.rs.length q.rc,vL q.ha b.hd.length q.hc,vL q.oa b.rt.length q.oc,vL q.na b.rn.length q.nc,vL q.ja b.jb.length q.jc] 47)=V0 at*;go_wp2;go_loopw[3] (λi wr=>∃k:Nat,k<=b.jb.length/\i=.int .i64 k/\Hid (∀i,i<k->JbP b i)/\Hid (Cl wr w.heap.size 47 [.int .i64 b.wd,.bool b.up,.int .i64 b.now,.int .i64 b.ep,.int .i64 b.ed,.slice q.sa b.sf.length q.sc,.slice q.la b.lo.length q.lc,.slice q.fa b.fs.length q.fc,.int .i64 b.s.wd,.slice q.ta b.s.ts.length q.tc,.slice q.ra b.s.rs.length q.rc,.slice q.ha b.hd.length q.hc,.slice q.oa b.rt.length q.oc,.slice q.na b.rn.length q.nc,.slice q.ja b.jb.length q.jc])/\Below w.heap.size w wr) (λi _=>b.jb.length-(RowKit.intOf i).toNat);exact⟨0,J4 _,rfl,λj h=>absurd h (y9 _),C0,B0.out⟩;generalize wr=d at*;obtain⟨k,hk,rfl,hd,Cr,hb⟩:=hrel;have H:=U0 hb;clear hb;have p:=Cr.out.cell 14;simp only[gz]at p;by_cases hlt:k<b.jb.length;rotate_left
 ·obtain rfl:k=b.jb.length:=O0;have HY:Hid (JbS b):=hd.out;go_wp2;go_ret;exact⟨J_ HY.out,H.out⟩
 obtain⟨ha,hbw,hcell⟩:=Jd HC.out hlt;have a6w:=U9 hbw H.out.size;have HJ0:Hid (∀t,t<b.jb.length->∀u,Bw d u->Bc u D (C+t*3) (yC (b.jb.getD t ve))):=λt ht u a=>((hcell t ht).below hbw H.out).below a6w a;have n:Hid (¬JbP b k->¬JbS b):=λE h=>E (h k hlt);have HD:Hid (JbP b k->∀i,i<k+1->JbP b i):=λE j hj=>by
  rcases D8 j k with h|h
  ·exact hd.out j h
  obtain rfl:j=k:=O0;exact E
 unfold JbP at n HD;have HX:=U0 (HJ0.out k hlt);have HYP:Hid (∀u,Bw d u->u.cell? (aA D (C+(k-1)*3))=some (vS (b.jb.getD (k-1) ve).nm)):=λu a=>HJ0.out (k-1) O0 u a 0 _ rfl;generalize b.jb.getD k ve=x at*;generalize b.jb.getD (k-1) ve=y at*;rw[ha]at p;have HAq:=U0 ha;have g0:=HX.out d (G5 _ _) 0 _ rfl;have g1:=HX.out d (G5 _ _) 1 _ rfl;have g2:=HX.out d (G5 _ _) 2 _ rfl;dsimp only[Nat.add_zero]at g0;clear hcell hd ha
 go_upto_region 5 with fail
 have W:=U0 (X4 d [vS x.nm,vI x.wk,vI x.un] 127);have BV1:=U0 (Y6 (w:=d) (o:=.cells #[vS x.nm,vI x.wk,vI x.un] 127));generalize d.alloc (.cells #[vS x.nm,vI x.wk,vI x.un] 127)=V1 at*;have U:=U0 (Cr.out.below BV1.out Cr.out.lt);clear g0 g1 g2 p;have r0:=W.out.cell 0;simp only[gz]at r0
 go_wp2_with(refine Vb rfl (d_ 47 _ rfl (B:=w.heap.size) (j:=0) (cs:=[vI b.wd,.bool b.up,vI b.now,vI b.ep,vI b.ed,vL q.sa b.sf.length q.sc,vL q.la b.lo.length q.lc,vL q.fa b.fs.length q.fc,vI b.s.wd,vL q.ta b.s.ts.length q.tc,vL q.ra b.s.rs.length q.rc,vL q.ha b.hd.length q.hc,vL q.oa b.rt.length q.oc,vL q.na b.rn.length q.nc,vL q.ja b.jb.length q.jc]) rfl (λq v e=>by rw[o9];exact(U.out.cell q).trans e) underlying47 rfl Y1) ?_)
 refine(a3k b q x.nm V1 hrl (Ff HA.out.rn (J5 H.out BV1.out))).mono ?_;rintro e V⟨⟨r,rfl,hr⟩,Q⟩;have BV:=U0 (J5 BV1.out Q);have Y:=U0 (U.out.below Q U.out.lt);have X:=U0 (W.out.below Q W.out.lt);have R:=U0 (J5 H.out BV.out);have hvd:Bw V V.drew:=(G5 _ _).drew;clear Q r0 U W BV1
 go_upto_region 6 with fail
 rcases hr with⟨rfl,hno⟩|⟨i,rfl,O,hnm,a6J⟩
 ·have f:=U0 (n.out (λh=>by
   obtain⟨t,ht,e,_⟩:=h.1;exact hno t ht e))
  refine wp_region_held_drew (S:=λ_=>True) Y1 trivial λhH=>?_
  iterate 47 refine sq ?_
  refine wdn ?_;go_wp2;go_ret;exact⟨X5 f.out,R.out.drew⟩
 rcases Na HA.out.rn with⟨bb,off,hss|⟨han,hbn,hcn⟩⟩
 ·rw[hss]at O;exact absurd O (y9 _)
 obtain⟨ai,ci,gB,gL⟩:=(hcn i O).below hbn R.out;have a7U:=U9 hbn R.out.size;have HF:Hid ((b.rn.getD i A_).md=1/\(b.rn.getD i A_).wt=⟨#[]⟩->∃t:Nat,t<b.rn.length/\(b.rn.getD t A_).nm=x.nm/\(∀j,j<t->(b.rn.getD j A_).nm≠x.nm)/\(b.rn.getD t A_).md=1/\(b.rn.getD t A_).wt=⟨#[]⟩):=λh=>⟨i,O,hnm,a6J,h⟩;have HF2:Hid ((∃t:Nat,t<b.rn.length/\(b.rn.getD t A_).nm=x.nm/\(∀j,j<t->(b.rn.getD j A_).nm≠x.nm)/\(b.rn.getD t A_).md=1/\(b.rn.getD t A_).wt=⟨#[]⟩)->(b.rn.getD i A_).md=1/\(b.rn.getD i A_).wt=⟨#[]⟩):=λ⟨t,ht,e1,e2,e3⟩=>by
  rcases Uw t i with h|h|h
  ·exact absurd e1 (a6J t h)
  ·rw[<- h];exact e3
  exact absurd hnm (e2 i h)
 have GB:=U0 gB;have HAn:=U0 han;generalize b.rn.getD i A_=z at*;clear hcn han gB gL hnm a6J;have A:Hid (∀u,Bw V u->u.cell? (aW w 2)=some (vI b.now)/\u.cell? (aW w 11)=some (vL q.ha b.hd.length q.hc)/\u.cell? (aW w 13)=some (vL (some (aA bb off)) b.rn.length q.nc)/\u.cell? (aW w 14)=some (vL (some (aA D C)) b.jb.length q.jc)/\u.cell? (aA D (C+(k-1)*3))=some (vS y.nm)/\u.cell? (aW d 0)=some (vS x.nm)/\u.cell? (aW d 1)=some (vI x.wk)/\u.cell? (aW d 2)=some (vI x.un)/\Bc u bb (off+i*6) (Ph (z,vL ai z.ls.length ci))):=λu a=>by
  have h1:=Y.out.below a Y.out.lt;have h2:=X.out.below a X.out.lt;have h3:=J5 BV.out a;exact⟨h1.cell 2,h1.cell 11,(h1.cell 13).trans (by rw[HAn.out];rfl),(h1.cell 14).trans (by rw[HAq.out];rfl),HYP.out u h3,h2.cell 0,h2.cell 1,h2.cell 2,GB.out.below a7U a⟩
 have HJC:Hid (∀t,t<b.jb.length->∀u,Bw V u->u.cell? (aA D (C+t*3+1))=some (vI (b.jb.getD t ve).wk)):=λt ht u a=>HJ0.out t ht u (J5 BV.out a) 1 _ rfl;refine FI A hvd Y1 λhH=>?_;have hi0:¬(i:Int)<0:=O0
 iterate 7 refine sq ?_
 refine tq 7 hH ?_ (hv:=λu a=>d_ 111 _ rfl (B:=bb) (j:=off+i*6) (cs:=Ph (z,vL ai z.ls.length ci)) rfl a.2.2.2.2.2.2.2.2 underlying111 rfl Y1)
 try simp only[qq]
 refine rq 8 λK c=>?_;go_simp;refine(a5u z ai ci V.drew).mono ?_;rintro e I⟨⟨bo,rfl,P⟩,hb8⟩;have l:=U0 (hvd.trans (hb8.mono X7));have F:=U0 (J5 R.out l.out);clear hb8
 go_wp2_with fail
 refine A8 c (A.out _ l.out) λhH=>?_;clear c K
 cases bo with
 | false=>
  have f:=U0 (n.out (λh=>by have:=P.2 (HF2.out h.1);cases this));clear P
  iterate 38 refine sq ?_
  refine wdn ?_;go_wp2;go_ret;exact⟨X5 f.out,F.out⟩
 | true=>
 have a7V:=U0 (HF.out (P.1 rfl));clear P
 iterate 5 refine sq ?_
 by_cases h0:0<k;rotate_left
 focus
  have HLS:Hid (0<k->Op.bytesLess y.nm.toList x.nm.toList=true):=λh=>absurd h h0;rw[o_ h0]
  iterate 19 refine sq ?_
 rotate_left
 focus
  rw[X_ h0]
  iterate 5 refine sq ?_
  have hk1:k-1<b.jb.length:=O0;rw[show(k:Int)-1=((k-1:Nat):Int) by omega,T.Nb (k-1) O0]
  iterate 6 refine sq ?_
  by_cases N:Op.bytesLess y.nm.toList x.nm.toList=true;rotate_left
  ·have f:=U0 (n.out (λh=>N (h.2.1 h0)));rw[Ji.2 N,UI]
   iterate 22 refine sq ?_
   refine wdn ?_;go_wp2;go_ret;exact⟨X5 f.out,F.out⟩
  have HLS:Hid (0<k->Op.bytesLess y.nm.toList x.nm.toList=true):=λ_=>N;rw[N,OJ]
  iterate 8 refine sq ?_
 all_goals
  refine rq 33 λK c=>?_;go_simp;refine(c59 x.wk 1 b.hd.length I).mono ?_;rintro e w7⟨rfl,hw7⟩;obtain rfl:=hw7.symm;by_cases J:1<=x.wk/\x.wk<=b.hd.length;rotate_left
  ·have f:=U0 (n.out (λh=>J h.2.2.1));rw[o_ J]
   go_wp2_with fail
   refine A8 c (A.out _ l.out) λhH=>?_;clear c K
   iterate 13 refine sq ?_
   refine wdn ?_;go_wp2;go_ret;exact⟨X5 f.out,F.out⟩
  rw[X_ J]
  go_wp2_with fail
  refine A8 c (A.out _ l.out) λhH=>?_;clear c K
  iterate 10 refine sq ?_
  try rw[hw6]
  refine rq 44 λK c=>?_;go_simp;refine(c59 x.un b.now (b.now+6) I).mono ?_;rintro e w7⟨rfl,hw7⟩;obtain rfl:=hw7.symm;by_cases L:b.now<=x.un/\x.un<=b.now+6;rotate_left
  ·have f:=U0 (n.out (λh=>L h.2.2.2.1));rw[o_ L]
   go_wp2_with fail
   refine A8 c (A.out _ l.out) λhH=>?_;clear c K
   iterate 2 refine sq ?_
   refine wdn ?_;go_wp2;go_ret;exact⟨X5 f.out,F.out⟩
  rw[X_ L]
  go_wp2_with fail
  refine A8 c (A.out _ l.out) λhH=>?_;clear c K
  iterate 2 refine sq ?_
  refine wdn ?_;have C5:=U0 (Y.out.below l.out Y.out.lt);have D5:=U0 (X.out.below l.out X.out.lt);go_wp2;go_loopw[6] (λi wr=>∃t:Nat,t<=k/\i=.int .i64 t/\Hid (∀j,j<t->(b.jb.getD j ve).wk≠x.wk)/\Below I.heap.size I wr) (λi _=>k-(RowKit.intOf i).toNat);exact⟨0,J4 _,rfl,λj h=>absurd h (y9 _),G5 _ _⟩;obtain⟨t,ht,rfl,hdj,m⟩:=hrel;have C6:=U0 (C5.out.below m C5.out.lt);have D6:=U0 (D5.out.below m D5.out.lt);have Q6:=U0 (J5 F.out m);have p:=C6.out.cell 14;have d1:=D6.out.cell 1;simp only[gz]at p d1;rw[HAq.out]at p;by_cases htk:t<k;rotate_left
  ·obtain rfl:t=k:=O0;have HD1:=U0 (HD.out ⟨a7V.out,HLS.out,J,L,hdj.out⟩);clear m;go_wp2;go_roundw;exact⟨t+1,O0,by go_num,HD1,C6,Q6.out⟩;exact Z9
  have ht1:t<b.jb.length:=O0;have j1:=HJC.out t ht1 wr (J5 l.out m);have hbd:=U0 (m.drew);have HJD:Hid ((b.jb.getD t ve).wk≠x.wk->∀j,j<t+1->(b.jb.getD j ve).wk≠x.wk):=λE j hj=>by
   rcases D8 j t with h|h
   ·exact hdj.out j h
   obtain rfl:j=t:=O0;exact E
  have HJN:Hid ((b.jb.getD t ve).wk=x.wk->¬JbS b):=λh=>n.out (λg=>g.2.2.2.2 t htk h);generalize (b.jb.getD t ve).wk=Z at*;clear hdj m;by_cases hz:Z=x.wk
  ·have f:=U0 (HJN.out hz);rw[hz]at j1
   go_wp2_with fail
   go_region
   all_goals go_wp2
   all_goals go_ret
   all_goals exact⟨X5 f.out,Q6.out.drew⟩
  have HJ1:=U0 (HJD.out hz);have z:=V_.2 hz
  go_wp2_with fail
  go_region
  all_goals go_wp2
  all_goals go_roundw
  all_goals first
   | exact⟨t+1,O0,by go_num,HJ1,hbd.out⟩
   | (exact Z9)
