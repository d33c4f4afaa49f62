import Derived.Test.YtdgneicbmalnpaaGreatDoorEZA
import Derived.Test.YtdgneicbmalnpaaGreatDoorSI
set_option linter.all false
set_option maxHeartbeats 0
set_option maxRecDepth 99999
open Go.Value renaming slice->Sa,string->Sb,int->Sc,pointer->Sd
open Go.IntKind renaming i64->Se
open Go.Ending renaming returned->Sf
open Go.Obj renaming cells->Sg
namespace Go.Proofs.YtdgneicbmalnpaaGreatDoor
open Proofs.Tryz Go.RowKit
variable{u w:World}{B base e n size:Nat}{old vs xs:List Value}{P:Program}{ops:Array Oper}{o:Oper}{a:Act}{v:Value}
theorem Yc{s t:BY}(h:¬s=t):¬s.toList=t.toList:=λe=>h (by
 apply jg;rw[ByteArray.toList_eq,ByteArray.toList_eq]at e;exact Yl.1 e)
theorem RI{a b:List G3}(c:a.length=b.length)(h:∀j,j<a.length->a.getD j Jh=b.getD j Jh):a=b:=by
 refine xu c λj h1 h2=>?_;have:=h j h1;simpa[List.getD,V8 h1,V8 h2]using this
theorem a1G(x y:R3)(z v:OA)(F E:Nat)(w:World)(hl:x.gs.length<=1048576)(Z:y.gs.length<=1048576)(L:R_ w z x.gs)(K:R_ w v y.gs):
 Calls prog 110 #[.agg #[Sb x.key,Sa z x.gs.length F,Sb x.o],.agg #[Sb y.key,Sa v y.gs.length E,Sb y.o]] w λe w'=>Rb (x=y) e/\Bw w w':=by
 obtain⟨g,a,f⟩:=x;obtain⟨q,c,p⟩:=y;simp only at hl Z L K ⊢;obtain⟨V,hV⟩:∃V,V=((w.alloc (Sg #[vS g,vL z a.length F,vS f] 179)).alloc (Sg #[vS q,vL v c.length E,vS p] 179)):=⟨_,rfl⟩;have o:Bw w V:=by rw[hV];exact U6.alloc J4 _
 have hz:V.heap.size=w.heap.size+2:=by rw[hV];simp
 have a1:V.cell? (aW w 1)=some (vL z a.length F):=by rw[hV];simp[go_sem]
 have P:V.cell? (aA (w.heap.size+1) 1)=some (vL v c.length E):=by rw[hV];simp[go_sem]
 have O:=y9 L o;have N:=y9 K o;have r:=U0 hV;by_cases hk:g=q
 ·by_cases ho:f=p
  ·by_cases l:a.length=c.length
   ·rw[<- l];rw[<- l]at P;subst hk;subst ho;rw[<- l]at r;have s:=U0 l;clear l;obtain⟨b,off,hc⟩:=Ji O;obtain⟨b',off',J⟩:=Ji N;have HC:=U0 hc;have HC':=U0 J;clear hc J O N
    go_in
    go_wp2_with fail
    rw[<- r.o];go_loopw[5] (λi wr=>∃(k:Nat),k<=a.length/\i=Sc Se k/\Hid (∀j,j<k->a.getD j Jh=c.getD j Jh)/\Below V.heap.size V wr) (λi _=>a.length-(RowKit.intOf i).toNat);exact⟨0,Y4 _,rfl,λj h=>absurd h (U8 _),O4 _ _⟩;obtain⟨k,hk2,rfl,hd,d⟩:=hrel;have u:=E5 o d;have e1:=(d.cell (by exact(show w.heap.size<V.heap.size by omega))).trans a1;have e2:=(d.cell (by exact(show w.heap.size+1<V.heap.size by omega))).trans P;by_cases n:k<a.length
    ·obtain⟨ha,D,B⟩:=Ud HC.o n;rcases HC'.o with W|⟨ha',C,A⟩
     ·have l:=s.o;rw[W]at l;rw[l]at n;exact absurd n (U8 _)
     subst ha;subst ha';have g0:=(d.cell (by exact D)).trans (B k n).1;have g1:=(d.cell (by exact D)).trans (B k n).2.1;have g2:=(d.cell (by exact D)).trans (B k n).2.2;have g0':=(d.cell (by exact C)).trans (A k (by have:=s.o;omega)).1;have g1':=(d.cell (by exact C)).trans (A k (by have:=s.o;omega)).2.1;have g2':=(d.cell (by exact C)).trans (A k (by have:=s.o;omega)).2.2;by_cases t:a.getD k Jh=c.getD k Jh
     ·have HD:Hid (∀j,j<k+1->a.getD j Jh=c.getD j Jh):=λj hj=>by
       rcases Z7 j k with h|h
       ·exact hd j h
       obtain rfl:j=k:=O0;exact t
      rw[<- t]at g0' g1' g2';generalize a.getD k Jh=X at*
      go_wp2_with fail
      go_region
      all_goals go_wp2
      all_goals go_roundw
      all_goals first
       | exact⟨k+1,O0,by go_num,HD,d.drew⟩
       | (exact V9)
     have m:Hid (¬R3.mk g a f=R3.mk g c f):=λh=>t (by injection h with _ h2;rw[h2]);generalize a.getD k Jh=X at*;generalize c.getD k Jh=Y at*;obtain⟨n1,Q,S⟩:=X;obtain⟨n2,t2,R⟩:=Y;by_cases I:n1=n2
     ·subst I;by_cases H:Q=t2
      ·subst H;have U:¬S=R:=λh=>t (by rw[h]);have q3':=Yc U
       go_wp2_with fail
       go_region
       all_goals go_wp2
       all_goals go_ret
       all_goals exact⟨P5 m.o,u.drew⟩
      have q2':=Yc H
      go_wp2_with fail
      go_region
      all_goals go_wp2
      all_goals go_ret
      all_goals exact⟨P5 m.o,u.drew⟩
     have q1':(n1==n2)=false:=by simpa using I
     go_wp2_with fail
     go_region
     all_goals go_wp2
     all_goals go_ret
     all_goals exact⟨P5 m.o,u.drew⟩
    obtain rfl:k=a.length:=O0;have HY:Hid (R3.mk g a f=R3.mk g c f):=by
     show R3.mk _ _ _=R3.mk _ _ _;rw[RI s.o hd.o]
    go_wp2;go_ret;exact⟨H_ HY,u⟩
   have m:Hid (¬R3.mk g a f=R3.mk q c p):=λh=>l (by injection h with _ h2;rw[h2]);subst hk;subst ho;have hn1:¬(a.length:Int)=c.length:=O0
   go_in
   go_wp2_with fail
   rw[<- r.o];go_ret;exact⟨P5 m,o⟩
  have m:Hid (¬R3.mk g a f=R3.mk q c p):=λh=>ho (by injection h);subst hk;have ho1:=Yc ho
  go_in
  go_wp2;go_ret;rw[<- r.o];exact⟨P5 m,o⟩
 have m:Hid (¬R3.mk g a f=R3.mk q c p):=λh=>hk (by injection h);have hk1:=Yc hk
 go_in
 go_wp2;go_ret;rw[<- r.o];exact⟨P5 m,o⟩
theorem a6t(c:Int)(w:World)(hc:c=0\/c=1\/c=2\/c=3\/c=4\/c=5\/c=7):
 Calls prog 379 #[Sc Se c] w λe w'=>e=Sf (Sb (U3 [UInt8.ofNat (48+c).toNat]))/\w'=w:=by
 rcases hc with rfl|rfl|rfl|rfl|rfl|rfl|rfl
 all_goals
  go_in
  go_wp2;go_ret;exact⟨rfl,rfl⟩
theorem a5w(c:Int)(w:World)(hc:c=0\/c=1\/c=2\/c=3\/c=4\/c=5\/c=7):
 Calls prog 374 #[Sc Se c,Sc Se 10] w λe w'=>e=Sf (Sb (U3 [UInt8.ofNat (48+c).toNat]))/\w'=w:=by
 have h1:0<=c:=O0;have h2:c<100:=O0;have H:=a6t c w hc;clear hc
 go_in
 go_wp2_with(go_at_call 379;refine H.mono ?_;rintro e w'⟨rfl,rfl⟩)
 go_ret;exact⟨rfl,rfl⟩
theorem a6g(c:Int)(w:World)(hc:c=0\/c=1\/c=2\/c=3\/c=4\/c=5\/c=7):
 Calls prog 360 #[Sc Se c] w λe w'=>e=Sf (Sb (U3 [UInt8.ofNat (48+c).toNat]))/\w'=w:=by
 have H:=a5w c w hc
 go_in
 go_wp2_with(go_at_call 374;refine H.mono ?_;rintro e w'⟨rfl,rfl⟩)
 go_ret;exact⟨rfl,rfl⟩
theorem a6A(c:Int)(w:World)(hc:c=0\/c=1\/c=2\/c=3\/c=4\/c=5\/c=7):
 Calls prog 342 #[Sc Se c] w λe w'=>e=Sf (Sb (U3 [UInt8.ofNat (48+c).toNat]))/\w'=w:=by
 have H:=a6g c w hc
 go_in
 go_wp2_with(go_at_call 360;refine H.mono ?_;rintro e w'⟨rfl,rfl⟩)
 go_ret;exact⟨rfl,rfl⟩
theorem uQ(c:Int)(s:BY)(w:World)(hs:s.size<=1048700):
 Calls prog 307 #[.agg #[Sc Se c,Sb s]] w λe w'=>e=Sf (Sb (U3 (b_ c s.data.toList)))/\Bw w w':=by
 go_in
 go_wp2_with fail
 refine(c234 _ _ _ hs).mono ?_;rintro e w1⟨rfl,a⟩;have b:=((O4 w.heap.size w).alloc A8 (Sg #[vI c,vS s] 117)).trans (a.mono J4);have g10:w1.cell? (aW w 0)=some (vI c):=by rw[a.cell J4];simp
 have g11:w1.cell? (aW w 1)=some (vS s):=by rw[a.cell J4];simp
 cases hv:vr c s.data.toList
 ·have hF:=qL hv;go_wp2;go_ret;exact⟨hF,b⟩
 have hc:=Gi hv;have hF:=U0 (EI hv);have hz:(U3 [UInt8.ofNat (48+c).toNat]).size=1:=rfl;clear hv
 go_wp2_with fail
 go_region_with(go_at_call 342;refine(a6A _ _ hc).mono ?_;rintro e w'⟨rfl,rfl⟩)
 all_goals go_wp2
 all_goals go_ret
 all_goals exact⟨by rw[hF.o];rfl,by first|exact b|exact b.drew⟩
theorem a4R(b:Bool)(w:World):Calls prog 254 #[.bool b] w λe w'=>e=Sf (Sb (if b then⟨#[49]⟩ else⟨#[48]⟩))/\Bw w w':=by
 cases b
 ·go_in
  go_wp2;go_ret;exact⟨rfl,O4 _ _⟩
 go_in
 go_wp2;go_ret;exact⟨rfl,O4 _ _⟩
def rf(m:M3):BY:=m.tl++⟨#[32]⟩++m.ar
theorem a2G(m:M3)(w:World)(hm:m.le 1048600):Calls prog 308 #[.agg #[Sb m.nm,Sb m.tl,Sb m.ar]] w λe w'=>e=Sf (Sb (rf m))/\Bw w w':=by
 have h1:=hm.2.1;have h2:=hm.2.2;have hB:∀o,Bw w (w.alloc o):=λo=>U6
 go_in
 go_wp2;go_ret;exact⟨rfl,hB _⟩
def Qs(x:L4):BY:=if x.has then(if x.cd=0 then⟨#[49]⟩ else⟨#[48]⟩) else U3 (b_ x.cd x.tx.data.toList)
theorem a4M(x:L4)(w:World)(hx:x.tx.size<=1048700):Calls prog 343 #[.agg #[.bool x.has,Sb x.nm,Sc Se x.cd,Sb x.tx]] w λe w'=>e=Sf (Sb (Qs x))/\Bw w w':=by
 obtain⟨h,nm,cd,tx⟩:=x;simp only at hx ⊢;have hB:∀o,Bw w (w.alloc o):=λo=>U6;cases h
 ·go_in
  go_wp2_with fail
  refine(uQ cd tx _ hx).mono ?_;rintro e w1⟨rfl,a⟩;have c:=(hB (Sg #[.bool false,vS nm,vI cd,vS tx] 213)).trans (a.mono J4);go_wp2;go_ret;exact⟨rfl,c⟩
 by_cases h0:cd=0
 ·subst h0
  go_in
  go_wp2;go_ret;exact⟨rfl,hB _⟩
 have h1:(cd==0)=false:=by simpa using h0
 have b:Hid (Qs ⟨true,nm,cd,tx⟩=⟨#[48]⟩):=by show Qs _=_;unfold Qs;simp[h0]
 go_in
 go_wp2;go_ret;exact⟨by rw[b.o];rfl,hB _⟩
theorem a4p(a c:List G3)(A z:OA)(N L:Nat)(w:World)(hl:a.length<=1048576)(hl':c.length<=1048576)(y:R_ w A a)(x:R_ w z c):
 Calls prog 275 #[Sa A a.length N,Sa z c.length L] w λe w'=>Rb (a=c) e/\Bw w w':=by
 by_cases f:a.length=c.length
 ·rw[<- f];have m:=U0 f;clear f;obtain⟨b,off,hc⟩:=Ji y;obtain⟨b',off',v⟩:=Ji x;have R:=U0 hc;have Q:=U0 v;clear hc v y x
  go_in
  go_wp2;go_loopw[13] (λi wr=>∃(k:Nat),k<=a.length/\i=Sc Se k/\Hid (∀j,j<k->a.getD j Jh=c.getD j Jh)/\Below w.heap.size w wr) (λi _=>a.length-(RowKit.intOf i).toNat);exact⟨0,Y4 _,rfl,λj h=>absurd h (U8 _),O4 _ _⟩;obtain⟨k,hk2,rfl,hd,d⟩:=hrel;have q:=d;by_cases g:k<a.length
  ·obtain⟨ha,s,p⟩:=Ud R.o g;rcases Q.o with F|⟨H,r,o⟩
   ·have f:=m.o;rw[F]at f;rw[f]at g;exact absurd g (U8 _)
   subst ha;subst H;have g0:=(d.cell (by exact s)).trans (p k g).1;have g1:=(d.cell (by exact s)).trans (p k g).2.1;have g2:=(d.cell (by exact s)).trans (p k g).2.2;have K:=(d.cell (by exact r)).trans (o k (by have:=m.o;omega)).1;have J:=(d.cell (by exact r)).trans (o k (by have:=m.o;omega)).2.1;have I:=(d.cell (by exact r)).trans (o k (by have:=m.o;omega)).2.2;clear p o;by_cases l:a.getD k Jh=c.getD k Jh
   ·have P:Hid (∀j,j<k+1->a.getD j Jh=c.getD j Jh):=λj hj=>by
     rcases Z7 j k with h|h
     ·exact hd.o j h
     obtain rfl:j=k:=O0;exact l
    rw[<- l]at K J I;generalize a.getD k Jh=X at*;clear l hd
    go_wp2_with fail
    go_region
    all_goals go_wp2
    all_goals go_roundw
    all_goals first
     | exact⟨k+1,O0,by go_num,P,d.drew⟩
     | (exact V9)
   have n:Hid (¬a=c):=λh=>l (by rw[h]);generalize a.getD k Jh=X at*;generalize c.getD k Jh=Y at*;obtain⟨n1,B,D⟩:=X;obtain⟨n2,t2,C⟩:=Y;by_cases u:n1=n2
   ·subst u;by_cases t:B=t2
    ·subst t;have E:¬D=C:=λh=>l (by rw[h]);have q3':=Yc E
     go_wp2_with fail
     go_region
     all_goals go_wp2
     all_goals go_ret
     all_goals exact⟨P5 n.o,q.drew⟩
    have q2':=Yc t
    go_wp2_with fail
    go_region
    all_goals go_wp2
    all_goals go_ret
    all_goals exact⟨P5 n.o,q.drew⟩
   have q1':(n1==n2)=false:=by simpa using u
   go_wp2_with fail
   go_region
   all_goals go_wp2
   all_goals go_ret
   all_goals exact⟨P5 n.o,q.drew⟩
  obtain rfl:k=a.length:=O0;have O:Hid (a=c):=by
   exact RI m hd
  go_wp2;go_ret;exact⟨H_ O,q⟩
 have n:Hid (¬a=c):=λh=>f (by rw[h]);have hn1:¬(a.length:Int)=c.length:=O0
 go_in
 go_wp2;go_ret;exact⟨P5 n,O4 _ _⟩
theorem J6.a3Q(h:J6 u B old)(hl:old.length=vs.length):J6 (Go.Proofs.YtdgneicbmalnpaaGreatDoor.fill u B 0 vs) B vs:=by
 have k:=J6.fill vs [] old [] 0 (by simpa using h) hl rfl;simpa using k
theorem rU(hB:J6 u B old)(hl:old.length=vs.length):∀i,i<vs.length->(u.cell? ⟨B,0+i,none⟩).isSome=true:=λi hi=>by
 rw[Y8,hB i _ (V8 O0)];rfl
theorem Qd{K:Act->World->Prop}{Q:Exit->Act->World->Prop}{E:Prop}(d:o.guard=none)(ty:TypeId)(x y:Operand)(ho:o.op=.store ty x y)
 (B j:Nat) (hx:a.eval x=Sd (some ⟨B,j,none⟩)) (vs:List Value) (b:a.eval y=.agg vs.toArray) (hc:∀i,i<vs.length->(w.cell? ⟨B,j+i,none⟩).isSome=true) (hf:J9 w B) (h1:∀v∈vs,v.oneCell'=true)
 (c:(P.info? ty).map (·.size)=some vs.length) (e:o.dst=none) (h:K a (fill w B j vs)):
 if Region.wanted o (yielded ops a.tmps)=true then Oper.wp P o a w K Q else E:=by
 have hw:Region.wanted o (yielded ops a.tmps)=true:=by simp[Region.wanted,d]
 rw[D8 hw];unfold Oper.wp execOp;simp only[ho,hx,b,Instr.storeAt,Instr.sureAddr,Xi,Tj,Sm,Zh w B j ty vs hc hf h1 c]
 first
  | exact h
  | (simp only[Oper.upon];exact h)
  | (simp only[Oper.upon,e];exact h)
theorem a4U(x:L4)(W:Int)(H:Nat)(w:World)(hx:x.tx.size<=1048600)(hH:H<w.heap.size)(J:w.cell? ⟨H,0,none⟩=some (Sc Se W))(I:(Qs x).size<=1048700):
 Calls prog 309 #[Sd (some ⟨H,0,none⟩),.agg #[.bool x.has,Sb x.nm,Sc Se x.cd,Sb x.tx]] w λe w'=>e=Sf (.agg #[.bool x.has,Sb x.nm,Sb (Y6 (Qs x) W)])/\Bw w w':=by
 replace hx:x.tx.size<=1048700:=O0
 have p:Bw w ((w.alloc (Sg #[.bool x.has,vS x.nm,vI x.cd,vS x.tx] 213)).alloc (Sg #[.bool false,vE,vE] 235)):=U6.alloc J4 _;have hz:((w.alloc (Sg #[.bool x.has,vS x.nm,vI x.cd,vS x.tx] 213)).alloc (Sg #[.bool false,vE,vE] 235)).heap.size=w.heap.size+2:=J4;have g:=(p.cell (by exact hH)).trans J;have a:=U0 ((X9 w [.bool x.has,vS x.nm,vI x.cd,vS x.tx] 213).below ((O4 _ _).alloc A8 (Sg #[.bool false,vE,vE] 235)) J4);have U:Hid (J6 ((w.alloc (Sg #[.bool x.has,vS x.nm,vI x.cd,vS x.tx] 213)).alloc (Sg #[.bool false,vE,vE] 235)) (w.heap.size+1) [.bool false,vE,vE]):=λj x hx=>by simp[go_sem,hx]
 have X:Hid (J9 ((w.alloc (Sg #[.bool x.has,vS x.nm,vI x.cd,vS x.tx] 213)).alloc (Sg #[.bool false,vE,vE] 235)) (w.heap.size+1)):=λj=>by simp[go_sem]
 go_in
 go_wp2_with fail
 generalize ((w.alloc (Sg #[.bool x.has,vS x.nm,vI x.cd,vS x.tx] 213)).alloc (Sg #[.bool false,vE,vE] 235))=V at*;have d:Bw V V.drew:=(O4 _ _).drew;have D:=(a.o.below d O0) 0 _ rfl;have B:=(a.o.below d O0) 1 _ rfl;have z:=(a.o.below d O0) 2 _ rfl;have t:=(a.o.below d O0) 3 _ rfl;have r:=(d.cell (by exact(show H<V.heap.size by omega))).trans g;refine wp_region_held_drew (S:=(λu=>u.cell? (aW w 0)=some (.bool x.has)/\u.cell? (aW w 1)=some (vS x.nm)/\u.cell? (aW w 2)=some (vI x.cd)/\u.cell? (aW w 3)=some (vS x.tx)/\u.cell? (aA H 0)=some (vI W))) Y0 ?_ λhHeld=>?_
 ·exact⟨D,B,z,t,r⟩
 refine y_ 0 ?_;refine y_ 1 ?_;refine y_ 2 ?_;refine y_ 3 ?_;refine y_ 4 ?_;refine y_ 6 ?_;refine y_ 7 ?_;refine y_ 8 ?_;refine y_ 9 ?_;refine rq 5 λK b=>?_;go_simp;refine(a4M x V.drew hx).mono ?_;rintro e w1⟨rfl,o⟩;have h1:=E5 d o;clear o;have F:=(a.o.below h1 O0) 0 _ rfl;have C:=(a.o.below h1 O0) 1 _ rfl;have A:=(a.o.below h1 O0) 2 _ rfl;have y:=(a.o.below h1 O0) 3 _ rfl;have s:=(h1.cell (by exact(show H<V.heap.size by omega))).trans g;go_simp;clear hHeld;refine G9 b ?_ λhHeld=>?_
 ·exact⟨F,C,A,y,s⟩
 clear b K;refine rq 10 λK b=>?_;go_simp;refine(uJ (Qs x) W w1 I).mono ?_;rintro e f⟨rfl,n⟩;have h2:=E5 h1 n;clear n;have m:=(a.o.below h2 O0) 0 _ rfl;have l:=(a.o.below h2 O0) 1 _ rfl;have k:=(a.o.below h2 O0) 2 _ rfl;have i:=(a.o.below h2 O0) 3 _ rfl;have h:=(h2.cell (by exact(show H<V.heap.size by omega))).trans g;go_simp;clear hHeld;refine G9 b ?_ λhHeld=>?_
 ·exact⟨m,l,k,i,h⟩
 clear b K;refine sq ?_;refine rq 12 λK b=>?_;have q:=U0 (U.o.below h2 O0);have F2:=U0 (X.o.below h2 O0);refine Qd rfl 235 (.tmp 4) (.tmp 16) rfl (w.heap.size+1) 0 rfl [.bool x.has,vS x.nm,vS (Y6 (Qs x) W)] rfl (rU q.o rfl) F2.o (by simp[Value.oneCell']) Y0 rfl ?_;clear hHeld;have c:Below (w.heap.size+1) f (fill f (w.heap.size+1) 0 [.bool x.has,vS x.nm,vS (Y6 (Qs x) W)]):=Ub A8 _ _ (O4 _ _);have R:=U0 (q.o.a3Q (vs:=[.bool x.has,vS x.nm,vS (Y6 (Qs x) W)]) rfl);have hs2:=h2.size;have Q:=(c.cell (by exact(show w.heap.size<_ by omega))).trans m;have O:=(c.cell (by exact(show w.heap.size<_ by omega))).trans l;have c2:=(c.cell (by exact(show w.heap.size<_ by omega))).trans k;have c3:=(c.cell (by exact(show w.heap.size<_ by omega))).trans i;have N:=(c.cell (by exact(show H<_ by omega))).trans h;have L:=(E5 p h2).trans (c.mono O0);generalize fill f (w.heap.size+1) 0 [.bool x.has,vS x.nm,vS (Y6 (Qs x) W)]=E at*;refine b.o _ _ ⟨Q,O,c2,c3,N⟩ λhHeld=>?_;clear b K;refine wdn ?_
 go_wp2_with fail
 refine P7 (v:=.agg ([.bool x.has,vS x.nm,vS (Y6 (Qs x) W)]:List Value).toArray) (l7 (P:=prog) (ty:=235) rfl _ E (w.heap.size+1) [.bool x.has,vS x.nm,vS (Y6 (Qs x) W)] _ rfl R.o underlying235 rfl Y0) rfl ⟨rfl,L⟩
theorem c228(x y:R3)(g f:OA)(j i:Nat)(w:World)(hl:x.gs.length<=1048576)(p:y.gs.length<=1048576)(s:R_ w g x.gs)(r:R_ w f y.gs):
 Calls prog 228 #[.agg #[Sb x.key,Sa g x.gs.length j,Sb x.o],.agg #[Sb y.key,Sa f y.gs.length i,Sb y.o]] w λe w'=>Rb (x=y) e/\Bw w w':=by
 obtain⟨a,d,b⟩:=x;obtain⟨m,c,k⟩:=y;simp only at hl p s r ⊢;have hB:∀o n,Bw w ((w.alloc o).alloc n):=λo n=>U6.alloc J4 _;by_cases hk:a=m
 ·subst hk;by_cases ho:b=k
  ·subst ho;have B:=U0 (y9 s (hB (Sg #[vS a,vL g d.length j,vS b] 179) (Sg #[vS a,vL f c.length i,vS b] 179)));have A:=U0 (y9 r (hB (Sg #[vS a,vL g d.length j,vS b] 179) (Sg #[vS a,vL f c.length i,vS b] 179)));have z:=hB (Sg #[vS a,vL g d.length j,vS b] 179) (Sg #[vS a,vL f c.length i,vS b] 179)
   go_in
   go_wp2_with fail
   refine(a4p d c g f j i _ hl p B A).mono ?_;rintro e w1⟨hR,u⟩;have v:=E5 z u;obtain⟨q,rfl,t⟩:=hR;have C:Hid (Rb (R3.mk a d b=R3.mk a c b) (Sf (.bool q))):=⟨q,rfl,t.trans ⟨λh=>by rw[h],λh=>by injection h⟩⟩;go_wp2;go_ret;exact⟨C,v⟩
  have l:Hid (¬R3.mk a d b=R3.mk a c k):=λh=>ho (by injection h);have ho1:=Yc ho
  go_in
  go_wp2;go_ret;exact⟨P5 l,hB _ _⟩
 have l:Hid (¬R3.mk a d b=R3.mk m c k):=λh=>hk (by injection h);have hk1:=Yc hk
 go_in
 go_wp2;go_ret;exact⟨P5 l,hB _ _⟩
theorem wB{rest:List Oper}{Q:Exit->Act->World->Prop}
 (q:o.guard=none) (s x:Operand) (t:TypeId) (l:o.op=Op.call { callee:=Callee.builtin Builtin.append,args:=#[s,x],argTypes:=#[t,t] })
 (base:Nat) (e:TypeId) (i:TypeInfo) (z:Value) (size bytes:Nat) (h1:P.underlying t=some (.slice e)) (h2:P.info? e=some i) (F:i.zero=some z) (E:i.size=size) (D:i.bytes=bytes) (C:z.cells.size=size) (B:0<size)
 (v:Value) (n:Nat) (xs:List Value) (hs:a.eval s=v) (k:w.ownsRow base e size v n xs)
 (d:Addr) (m c:Nat) (b:List Value) (hx:a.eval x=Sa (some d) m c) (p:b.length=m*size) (hc:∀j u,b[j]?=some u->w.cell? (d.add j)=some u) (H:∀u∈b,u.oneCell'=true)
 (J:n+m<=maxLen) (I:(n+m)*bytes<=140737488355328) (r:base<=w.heap.size)
 (A:∀v' w',w'.ownsRow base e size v' (n+m) (xs++b)->w.grownBy w' v.ownBlock->wpList P ops Q rest (a.put o.dst v') w'):wpList P ops Q (o::rest) a w:=by
 refine zx q λK y=>?_;obtain⟨v',w',h,g,f,_⟩:=run_append_own (P:=P) w base t o.type e i z size bytes h1 h2 F E D C B v n xs k d m c b p hc H J I r;unfold Oper.wp;simp[execOp,l,resolve,invoke,builtin,hs,hx,h,Result.andThen];exact y _ _ (A v' w' g f)
theorem X4(h:u.ownsRow base e size v n xs){k:Nat}(hk:v.ownBlock=some k):base<=k:=by
 rcases h.2 with⟨hv,_⟩|⟨g,cap,cur,hv,hg,hh,_⟩
 ·subst hv;simp[Value.ownBlock]at hk
 subst hv;simp[Value.ownBlock]at hk;omega
theorem x9(h:u.ownsRow base e size v n xs):∃a c,v=Sa a n c:=by
 rcases h.2 with⟨hv,h0⟩|⟨g,cap,cur,hv,hg,hh,_⟩
 ·exact⟨none,0,by rw[hv,h0]⟩
 exact⟨_,_,hv⟩
def F_:List L4->List (Int×ByteArray)
 | []=>[]
 | x::r=>if x.has then F_ r else(x.cd,x.tx)::F_ r
theorem Vw(l:List L4)(x:L4):F_ (l++[x])=F_ l++(if x.has then [] else [(x.cd,x.tx)]):=by
 induction l with
 | nil=>cases h:x.has<;>simp[F_,h]
 | cons y r ih=>cases h:y.has<;>simp[F_,h,ih]
theorem aC(l:List L4):(F_ l).length<=l.length:=by
 induction l with
 | nil=>exact Y7 _
 | cons y r ih=>cases h:y.has<;>simp[F_,h]<;>omega
def YC(rs:List (Int×ByteArray)):List Value:=rs.flatMap λr=>[Sc Se r.1,Sb r.2]
theorem lD(l:List (Int×ByteArray))(c:Int)(s:BY):YC (l++[(c,s)])=YC l++[Sc Se c,Sb s]:=by simp[YC]
theorem Hw{l:List L4}{k:Nat}(h:k<l.length):l.take (k+1)=l.take k++[l.getD k K_]:=by
 rw[Oq,V8 h];simp[List.getD,V8 h]
theorem jL:(prog.info? 117).map (λi=>(i.zero,i.size,i.bytes))=some (some (.agg #[Sc Se 0,Sb ⟨#[]⟩]),2,24):=Y0
theorem info_parts'{e:TypeId}{z:Value}{m:Nat}(h:(P.info? e).map (λi=>(i.zero,i.size,i.bytes))=some (some z,n,m)):∃i,P.info? e=some i/\i.zero=some z/\i.size=n/\i.bytes=m:=by
 cases hq:P.info? e with
 | none=>simp[hq]at h
 | some i=>
  simp only[hq,qy,Iw,iJ]at h;exact⟨i,rfl,h.1,h.2.1,h.2.2⟩
theorem a2n(ls:List L4)(a:OA)(cap:Nat)(w:World)(hl:ls.length<=1048576)(s:O9 w a ls):
 Calls prog 306 #[Sa a ls.length cap] w λe w'=>(∃v,e=Sf v/\w'.ownsRow w.heap.size 117 2 v (F_ ls).length (YC (F_ ls)))/\Bw w w':=by
 obtain⟨A,F,D,C,B⟩:=info_parts' jL;obtain⟨b,off,hc⟩:=uh s;have O:=U0 hc;clear hc s
 go_in
 go_wp2;go_loopw[3,8] (λv i wr=>∃(k:Nat),k<=ls.length/\i=Sc Se k/\Hid (wr.ownsRow w.heap.size 117 2 v (F_ (ls.take k)).length (YC (F_ (ls.take k))))/\Below w.heap.size w wr) (λ_ i _=>ls.length-(RowKit.intOf i).toNat);exact⟨0,Y4 _,rfl,M_ _ _ _ _,O4 _ _⟩;obtain⟨k,hk,rfl,g,c⟩:=hrel;by_cases d:k<ls.length
 ·obtain⟨ha,l,f⟩:=Ud O.o d;subst ha;have g0:=(c.cell (by exact l)).trans (f k d).1;have g1:=(c.cell (by exact l)).trans (f k d).2.1;have g2:=(c.cell (by exact l)).trans (f k d).2.2.1;have g3:=(c.cell (by exact l)).trans (f k d).2.2.2;have t:=U0 (Hw d);have hln:(F_ (ls.take k)).length<=1048576:=X7 (aC _) L8;clear f;generalize hx:ls.getD k K_=x at*;clear hx;obtain⟨h,nm,cd,tx⟩:=x;simp only at g0 g1 g2 g3;have hz:=c.size;cases h
  ·have o:Hid (F_ (ls.take (k+1))=F_ (ls.take k)++[(cd,tx)]):=by
    show F_ _=_;rw[t.o,Vw];simp
   have I:Bw w ((wr.alloc (Sg #[.bool false,Sb nm,Sc Se cd,Sb tx] 213)).alloc (Sg #[Sc Se cd,Sb tx] 117)):=(c.alloc hz _).alloc L8 _;have p:=U0 (qJ (qJ g.o (Sg #[.bool false,Sb nm,Sc Se cd,Sb tx] 213)) (Sg #[Sc Se cd,Sb tx] 117));have hzA:((wr.alloc (Sg #[.bool false,Sb nm,Sc Se cd,Sb tx] 213)).alloc (Sg #[Sc Se cd,Sb tx] 117)).heap.size=wr.heap.size+2:=J4;have y:Hid (∀j u,([Sc Se cd,Sb tx]:List Value)[j]?=some u->((wr.alloc (Sg #[.bool false,Sb nm,Sc Se cd,Sb tx] 213)).alloc (Sg #[Sc Se cd,Sb tx] 117)).cell? ((aA (wr.heap.size+1) 0).add j)=some u):=λj u m=>by
    rw[Jl,Y8]
    match j with
    | 0=>obtain rfl:=C_ m;simp[go_sem]
    | 1=>obtain rfl:=C_ m;simp[go_sem]
    | j+2=>simp at m
   clear g
   go_wp2_with(refine wB rfl (.tmp 15) (.tmp 18) 408 rfl w.heap.size 117 A (.agg #[Sc Se 0,Sb ⟨#[]⟩]) 2 24 underlying408 F D C B rfl U5 _ _ _ rfl p.o ⟨wr.heap.size+1,0,none⟩ 1 1 [Sc Se cd,Sb tx] rfl rfl y.o (by simp[Value.oneCell']) (by unfold maxLen;omega) O0 O0 ?_;intro v2 z n r;obtain⟨a2,c2,rfl⟩:=x9 n;have L:=U0 n;have H:Bw w z:=I.grown r O0 (λq E=>X4 p.o E);clear n r p y)
   go_roundw;exact⟨k+1,O0,by go_num,by rw[o.o,lD,Q9];exact L.o,H⟩;exact V9
  have o:Hid (F_ (ls.take (k+1))=F_ (ls.take k)):=by
   show F_ _=_;rw[t.o,Vw];simp
  have J:Bw w (wr.alloc (Sg #[.bool true,Sb nm,Sc Se cd,Sb tx] 213)):=c.alloc hz _;have P:=U0 (qJ g.o (Sg #[.bool true,Sb nm,Sc Se cd,Sb tx] 213));go_wp2;go_roundw;exact⟨k+1,O0,by go_num,by rw[o.o];exact P.o,J⟩;exact V9
 obtain rfl:k=ls.length:=O0;obtain⟨K,c3,rfl⟩:=x9 g.o;have N:Hid (wr.ownsRow w.heap.size 117 2 (.slice K (F_ (List.take ls.length ls)).length c3) (F_ ls).length (YC (F_ ls))):=by show World.ownsRow _ _ _ _ _ _ _;have h:=g.o;rw[Xt]at h ⊢;exact h
 go_wp2;go_ret;exact⟨⟨_,rfl,N.o⟩,c⟩
def vw(P:Program)(md:Region.Mode)(ops:Array Oper)(Q:Exit->Act->World->Prop)(S:World->Prop)(T:Nat):Nat->Array Bool->Act->World->Prop
 | 0,l,a,w=>Region.ready md ops l=[]/\Q .normal a w
 | n+1,l,a,w=>(Region.ready md ops l=[]->Q .normal a w)/\∀i∈Region.ready md ops l,wpOp P ops Q i (λa' w'=>(i≠T->S w')/\vw P md ops Q S T n (l.setIfInBounds i true) a' w') a w
section
variable{P:Program}{ops:Array Oper}{Q:Exit->Act->World->Prop}{md:Region.Mode}{S:World->Prop}{T:Nat}
theorem BN(n:Nat):∀(l:Array Bool)(a:Act)(w:World),vw P md ops Q S T n l a w->wpAny P md ops Q n l a w:=by
 induction n with
 | zero=>exact λ_ _ _ h=>h
 | succ n ih=>exact λ_ _ _ h=>⟨h.1,λi b=>wpOp_mono (λd w' c=>ih _ d w' c.2) (h.2 i b)⟩
def Du(md:Region.Mode)(ops:Array Oper)(T i:Nat):Bool:=(ops[T]?).any λo=>o.after.any λe=>Region.binds md e&&e.on==i
theorem MX{l:Array Bool}{T i:Nat}(hT:Du md ops T i=true)(c:i∈Region.ready md ops l):T∉Region.ready md ops l:=λh=>by
 obtain⟨_,o,ho,d⟩:=mem_ready.1 h;unfold Du at hT;rw[ho]at hT;simp only[Option.any_some,Array.any_eq_true]at hT;obtain⟨k,hk,a⟩:=hT;simp only[Fa,Yq]at a;have h1:=d _ (Array.getElem_mem hk) a.1;have h0:=(mem_ready.1 c).1;rw[a.2]at h1;rcases Z7 i l.size with b|b
 ·simp[b]at h0 h1;rw[h0]at h1;cases h1
 simp[Qo b]at h1
theorem uO{i:Nat}{g:Oper}{v:Value}(s:ops[i]?=some g)(hT:Du md ops T i=true)(x:∀(j:Nat)(o:Oper) cs b,ops[j]?=some o->o.op≠.select cs b)
 (hQ:∀c a w,Q (.panic c) (a.put g.dst v) w->Q (.panic c) a w) (n:Nat):∀(l:Array Bool)(a:Act)(w:World),
  (∀j f,ops[j]?=some f->j≠i->l.getD j true=false->(∀e∈f.after,Region.binds md e=true->e.on≠i)->g.apart ops f=true)->
  i∈Region.ready md ops l->YieldsIf P ops S g v a->S w->
  vw P md ops Q S T n (l.setIfInBounds i true) (a.put g.dst v) w->vw P md ops Q S T (n+1) l a w:=by
 have E:∀(l:Array Bool) j,i∈Region.ready md ops l->j∈Region.ready md ops l->j≠T:=λl j h1 h2 e=>MX hT h1 (e▸h2)
 induction n with
 | zero=>
  refine λl a w _ hr q p H=>⟨λh=>absurd (h▸hr) Oo,λj m=>?_⟩;by_cases d:j=i
  ·subst d;exact q.wpOp s p ⟨λ_=>p,H⟩
  exact absurd (H.1▸ready_mono m d) Oo
 | succ n ih=>
  refine λl a w A hr q p H=>⟨λh=>absurd (h▸hr) Oo,λj m=>?_⟩;by_cases d:j=i
  ·subst d;exact q.wpOp s p ⟨λ_=>p,H⟩
  have K:=E l j hr m;obtain⟨u,f,r,O⟩:=mem_ready.1 m;have F:∀e∈f.after,Region.binds md e=true->e.on≠i:=λe he N L=>by
   have h1:=O e he N;have h0:=(mem_ready.1 hr).1;rw[L]at h1;rcases Z7 i l.size with t|t
   ·simp[t]at h0 h1;rw[h0]at h1;cases h1
   simp[Qo t]at h1
  refine wpOp_mono (λR w' h=>?_) (wpOp_putIf r (A j f r d u F) (λcs b=>x i g cs b s) (λcs b=>x j f cs b r) hQ q (H.2 j (ready_mono m d)));obtain⟨B,y,C⟩:=h;refine⟨y,ih _ R w' (λk ok hk J D I=>A k ok hk J ?_ I) (ready_mono hr (Xn d)) B (y K) ?_⟩
  ·by_cases z:j=k
   ·exact z▸u
   rwa[getD_set_ne true z]at D
  rw[Array.setIfInBounds_comm _ _ d];exact C
theorem bI{i:Nat}(hT:Du md ops T i=true){b:Oper}{v:Value}{n:Nat}{l:Array Bool}{a:Act}{w:World}(d:ops[i]?=some b)
 (hs:Region.noSelect ops=true) (hf:Region.free md ops l i=true) (hr:(Region.ready md ops l).contains i=true)
 (hQ:∀c a w,Q (.panic c) (a.put b.dst v) w->Q (.panic c) a w) (e:YieldsIf P ops S b v a) (f:S w)
 (h:vw P md ops Q S T n (l.setIfInBounds i true) (a.put b.dst v) w):vw P md ops Q S T (n+1) l a w:=
 uO d hT (Region.noSelect_spec hs) hQ n l a w (Region.free_spec d hf) (by simpa using hr) e f h
def x_(P:Program)(md:Region.Mode)(ops:Array Oper)(Q:Exit->Act->World->Prop)(S:World->Prop)(T n:Nat)(l:Array Bool)(a:Act)(w:World)(rs:List Nat):Prop:=
 ∀i∈rs,wpOp P ops Q i (λa' w'=>(i≠T->S w')/\vw P md ops Q S T n (l.setIfInBounds i true) a' w') a w
theorem x_.nil{n:Nat}{l:Array Bool}{a:Act}{w:World}:x_ P md ops Q S T n l a w []:=λ_ h=>absurd h Oo
theorem x_.cons{n:Nat}{l:Array Bool}{a:Act}{w:World}{i:Nat}(hne:i≠T){o:Oper}{rs:List Nat}(ho:ops[i]?=some o)
 (h:∀b:Act->World->Prop,Shut (∀a w,S w->(S w->vw P md ops Q S T n (l.setIfInBounds i true) a w)->b a w)->if Region.wanted o (yielded ops a.tmps)=true then Oper.wp P o a w b Q else b (a.put o.dst undef) w)
 (hs:x_ P md ops Q S T n l a w rs):x_ P md ops Q S T n l a w (i::rs):=λj c=>by
 rcases qf.1 c with rfl|c
 ·exact wpOp_step ho (λb f=>h b (λa w d e=>f a w ⟨λ_=>d,e d⟩))
 exact hs j c
theorem x_.last{n:Nat}{l:Array Bool}{a:Act}{w:World}{o:Oper}(ho:ops[T]?=some o)
 (h:∀b:Act->World->Prop,Shut (∀a w,vw P md ops Q S T n (l.setIfInBounds T true) a w->b a w)->if Region.wanted o (yielded ops a.tmps)=true then Oper.wp P o a w b Q else b (a.put o.dst undef) w):x_ P md ops Q S T n l a w [T]:=λj c=>by
 obtain rfl:=Zj.1 c;exact wpOp_step ho (λb f=>h b (λa w d=>f a w ⟨λe=>absurd rfl e,d⟩))
theorem Gs{rs:List Nat}{n:Nat}{l:Array Bool}{a:Act}{w:World}(hr:Region.ready md ops l=rs)(b:rs≠[])(h:x_ P md ops Q S T n l a w rs):vw P md ops Q S T (n+1) l a w:=
 ⟨λh0=>absurd (hr▸h0) b,hr▸h⟩
theorem Ah{l:Array Bool}{a:Act}{w:World}(hr:Region.ready md ops l=[])(h:Q .normal a w)(n:Nat):vw P md ops Q S T n l a w:=by
 cases n with
 | zero=>exact⟨hr,h⟩
 | succ n=>exact⟨λ_=>h,by rw[hr];simp⟩
theorem Cf{b:Nat}{a:Act}{w:World}(T:Nat)(hm:P.follows .mixedOrders=true)(c:S w.drew)
 (h:S w.drew->vw P .any ops Q S T ops.size (Array.replicate ops.size false) a w.drew):(Code.region b ops true).wp P Q a w:=
 wp_region_any hm (BN _ _ _ _ (h c))
theorem wrl{V:World}{c:Nat}{a:Act}{w:World}(T:Nat)(C:Go.RowKit.Hid (∀u,Bw V u->S u))(b:Bw V w.drew)(hm:P.follows .mixedOrders=true)(h:S w.drew->vw P .any ops Q S T ops.size (Array.replicate ops.size false) a w.drew):(Code.region c ops true).wp P Q a w:=Cf T hm (C.o _ b) h
theorem lk{i:Nat}{b:Oper}{v:Value}{n:Nat}{l:Array Bool}{a:Act}{w:World}(e:ops[i]?=some b)(d:(Du md ops T i&&Region.noSelect ops&&Region.free md ops l i&&(Region.ready md ops l).contains i)=true)(hw:Region.wanted b (yielded ops a.tmps)=true)(hv:∀u,S u->(execOp a.eval b).run P u=.ok (.value v) u)(f:S w)(h:vw P md ops Q S T n (l.setIfInBounds i true) (a.put b.dst v) w)(hQ:∀c a w,Q (.panic c) (a.put b.dst v) w->Q (.panic c) a w:=by exact λ_ _ _ h=>h):vw P md ops Q S T (n+1) l a w:=by
 simp only[Fa]at d;exact bI d.1.1.1 e d.1.1.2 d.1.2 d.2 hQ (.inl ⟨hw,hv⟩) f h
theorem lq{v:Value}{n:Nat}{l:Array Bool}{a:Act}{w:World}{d:Option Nat}{op:Op}{ty:TypeId}{p:String}{af:Array Edge}{g:Option (Nat×Bool)}(i:Nat)(f:S w)(h:vw P md ops Q S T n (l.setIfInBounds i true) (a.put d v) w)(b:ops[i]?=some ⟨d,op,ty,p,af,g⟩:=by exact rfl)(e:(Du md ops T i&&Region.noSelect ops&&Region.free md ops l i&&(Region.ready md ops l).contains i)=true:=by kernel_rfl)(hw:Region.wanted ⟨d,op,ty,p,af,g⟩ (yielded ops a.tmps)=true:=by exact rfl)(hv:∀u,S u->(execOp a.eval ⟨d,op,ty,p,af,g⟩).run P u=.ok (.value v) u:=by intro wq hSw;(try dsimp only at hSw);go_simp;try with_reducible rfl)(hQ:∀c a w,Q (.panic c) (a.put d v) w->Q (.panic c) a w:=by first|exact λ_ _ _ h=>h|exact λ_ _ _ h=>hQ _ _ _ _ _ h):vw P md ops Q S T (n+1) l a w:=lk b e hw hv f h hQ
theorem lr{i:Nat}{o:Oper}{n:Nat}{l:Array Bool}{a:Act}{w:World}(ho:ops[i]?=some o)(c:i≠T)(hr:Region.ready md ops l=[i])(h:∀b:Act->World->Prop,Shut (∀a w,S w->(S w->vw P md ops Q S T n (l.setIfInBounds i true) a w)->b a w)->if Region.wanted o (yielded ops a.tmps)=true then Oper.wp P o a w b Q else b (a.put o.dst undef) w):vw P md ops Q S T (n+1) l a w:=Gs hr J4 (x_.cons c ho h x_.nil)
theorem lz{o:Oper}{n:Nat}{l:Array Bool}{a:Act}{w:World}(ho:ops[T]?=some o)(hr:Region.ready md ops l=[T])(h:∀b:Act->World->Prop,Shut (∀a w,vw P md ops Q S T n (l.setIfInBounds T true) a w->b a w)->if Region.wanted o (yielded ops a.tmps)=true then Oper.wp P o a w b Q else b (a.put o.dst undef) w):vw P md ops Q S T (n+1) l a w:=Gs hr J4 (x_.last ho h)
theorem EU{o:Oper}{a:Act}{w w':World}{v:Value}{K:Act->World->Prop}{E:Prop}(b:o.guard=none)(hr:(execOp a.eval o).run P w=.ok (.value v) w')(c:K (a.put o.dst v) w'):if Region.wanted o (yielded ops a.tmps)=true then Oper.wp P o a w K Q else E:=by
 rw[D8 (by simp[Region.wanted,b])];unfold Oper.wp;rw[hr];exact c
theorem uo{o:Oper}{a:Act}{w w':World}{K:Act->World->Prop}{E:Prop}(b:o.guard=none)(hr:(execOp a.eval o).run P w=.ok .skip w')(c:K (a.put o.dst undef) w'):if Region.wanted o (yielded ops a.tmps)=true then Oper.wp P o a w K Q else E:=by
 rw[D8 (by simp[Region.wanted,b])];unfold Oper.wp;rw[hr];exact c
theorem Oa{rest:List Oper}{o:Oper}{a:Act}{w w':World}{v:Value}(b:o.guard=none)(hr:(execOp a.eval o).run P w=.ok (.value v) w')(h:wpList P ops Q rest (a.put o.dst v) w'):wpList P ops Q (o::rest) a w:=by
 refine zx b λK c=>?_;unfold Oper.wp;rw[hr];exact c _ _ h
theorem BF{rest:List Oper}{o:Oper}{a:Act}{w w':World}(b:o.guard=none)(hr:(execOp a.eval o).run P w=.ok .skip w')(h:wpList P ops Q rest (a.put o.dst undef) w'):wpList P ops Q (o::rest) a w:=by
 refine zx b λK c=>?_;unfold Oper.wp;rw[hr];exact c _ _ h
end
def Cl(w:World)(b:Nat)(t:TypeId)(xs:List Value):Prop:=w.heap[b]?=some (Sg xs.toArray t (0,0))
structure Jr(B:Nat)(w w':World):Prop where
 os:w'.os=w.os
 tape:w'.tape=w.tape
 output:w'.output=w.output
 size:w'.heap.size=w.heap.size
 block:∀k,k≠B->w'.heap[k]?=w.heap[k]?
theorem Cl.lt{w:World}{b:Nat}{t:TypeId}{xs:List Value}(h:Cl w b t xs):b<w.heap.size:=(Ya.1 h).1
theorem Cl.cell{w:World}{b:Nat}{t:TypeId}{xs:List Value}(h:Cl w b t xs)(j:Nat):w.cell? ⟨b,j,none⟩=xs[j]?:=by
 rw[Lib.cell_of_heap h j];simp
theorem Cl.opn{w:World}{b:Nat}{t:TypeId}{xs:List Value}(h:Cl w b t xs)(j:Nat):w.frozen? ⟨b,j,none⟩=false:=Lib.frozen_of_heap h j
theorem Cl.blk{w:World}{b:Nat}{t:TypeId}{xs:List Value}(h:Cl w b t xs):J6 w b xs:=λj v e=>(h.cell j).trans e
theorem Cl.on{w w':World}{b B:Nat}{t:TypeId}{xs:List Value}(h:Cl w b t xs)(ho:Jr B w w')(a:b≠B):Cl w' b t xs:=(ho.block b a).trans h
theorem Cl.below{w w':World}{b N:Nat}{t:TypeId}{xs:List Value}(h:Cl w b t xs)(a:Below N w w')(c:b<N):Cl w' b t xs:=(a.block b c).trans h
theorem Cl.set{w:World}{b:Nat}{t:TypeId}{xs:List Value}(h:Cl w b t xs)(j:Nat)(v:Value):Cl (w.setCell ⟨b,j,none⟩ v) b t (xs.set j v):=by
 have:=heap_setCell_same w b j _ t v h;unfold Cl;rw[this,qQ]
theorem u_(w:World)(b j:Nat)(v:Value):Jr b w (w.setCell ⟨b,j,none⟩ v):=⟨rfl,rfl,rfl,J4,λk hk=>rG _ _ _ _ hk⟩
theorem Jr.below{B N:Nat}{w w':World}(h:Jr B w w')(hN:N<=B):Below N w w':=⟨h.os,h.tape,h.output,Vf h.size.symm,λk hk=>h.block k O0⟩
theorem I4(w:World)(xs:List Value)(t:TypeId):Cl (w.alloc (Sg xs.toArray t)) w.heap.size t xs:=heap_alloc_new w _
theorem E8{w:World}{b:Nat}{t:TypeId}{xs:List Value}(h:Cl w b t xs)(o:Obj):Cl (w.alloc o) b t xs:=(Lib.alloc_old w o b h.lt).trans h
theorem yh{w:World}{b:Nat}{t:TypeId}{xs:List Value}(h:Cl w b t xs):∀j u,xs[j]?=some u->w.cell? ((⟨b,0,none⟩:Addr).add j)=some u:=λj u e=>by
 have ha:(aA b 0).add j=(aA b j):=by unfold Addr.add;split<;>simp_all
 rw[ha];exact(h.cell j).trans e
theorem Cl.fil{w:World}{B:Nat}{t:TypeId}{xs:List Value}(vs:List Value):∀(j:Nat),Cl w B t xs->∃ys,Cl (fill w B j vs) B t ys/\ys.length=xs.length/\∀i,ys[i]?=if j<=i/\i<j+vs.length/\i<xs.length then vs[i-j]? else xs[i]?:=by
 induction vs generalizing w xs with
 | nil=>exact λj h=>⟨xs,h,rfl,λi=>by rw[U7];simp;omega⟩
 | cons v vs ih=>
  intro j h;obtain⟨ys,h1,h2,b⟩:=ih (j+1) (h.set j v);refine⟨ys,h1,by simpa using h2,λi=>?_⟩;rw[b i];simp only[Qi,f_];by_cases a:i=j
  ·subst a;rw[U7 O0];by_cases hl:i<xs.length
   ·rw[D8 ⟨O0,O0,hl⟩,Xk hl];simp
   rw[U7 O0];simp[Eb (show(xs.set i v).length<=i by simp;omega),Eb (show xs.length<=i by omega)]
  by_cases hc:j<=i/\i<j+(vs.length+1)/\i<xs.length
  ·rw[D8 hc,D8 O0];obtain⟨d,rfl⟩:∃d,i=j+1+d:=⟨i-(j+1),O0⟩;have e1:j+1+d-j=d+1:=O0;have c:j+1+d-(j+1)=d:=O0;rw[e1,c];simp
  rw[U7 hc,U7 O0,w_ O0]
theorem SE(B:Nat)(vs:List Value):∀(w:World)(j:Nat),Jr B w (fill w B j vs):=by
 induction vs with
 | nil=>exact λw j=>⟨rfl,rfl,rfl,rfl,λ_ _=>rfl⟩
 | cons v vs ih=>
  intro w j;have h1:=u_ w B j v;have h2:=ih (w.setCell (aA B j) v) (j+1);exact⟨h2.os.trans h1.os,h2.tape.trans h1.tape,h2.output.trans h1.output,h2.size.trans h1.size,λk hk=>(h2.block k hk).trans (h1.block k hk)⟩
def Dp(xs:List Value)(j:Nat)(vs:List Value):List Value:=xs.take j++vs++xs.drop (j+vs.length)
theorem Cl.WZ{w:World}{B:Nat}{t:TypeId}{xs vs:List Value}{j:Nat}(h:Cl w B t xs)(hl:j+vs.length<=xs.length):Cl (fill w B j vs) B t (Dp xs j vs):=by
 obtain⟨ys,h1,h2,c⟩:=h.fil vs j;have:ys=Dp xs j vs:=by
  apply List.ext_getElem?;intro i;rw[c i];unfold Dp;by_cases b:i<j
  ·rw[U7 O0,Tt,D_ L8,zC b]
  by_cases a:i<j+vs.length
  ·rw[D8 ⟨O0,a,O0⟩,Tt,Yf L8,D_ L8]
   congr 1
   simp;omega
  rw[U7 O0,Yf L8,vG]
  congr 1
  simp;omega
 rw[<- this];exact h1
section
variable{P:Program}{ops:Array Oper}{Q:Exit->Act->World->Prop}
theorem vK{o:Oper}{a:Act}{w:World}(ty:TypeId)(x y:Operand)(ho:o.op=.store ty x y){B j:Nat}{t:TypeId}{xs vs:List Value}(hx:a.eval x=Sd (some ⟨B,j,none⟩))(b:a.eval y=.agg vs.toArray)(hB:Cl w B t xs)(hl:j+vs.length<=xs.length)(h1:∀v∈vs,v.oneCell'=true)(c:(P.info? ty).map (·.size)=some vs.length):
 (execOp a.eval o).run P w=.ok .skip (fill w B j vs):=by
 unfold execOp;simp only[ho,hx,b,Instr.storeAt,Instr.sureAddr,Xi,Tj,Sm,Zh w B j ty vs (λi h=>by rw[hB.cell];simp;omega) (λj=>hB.opn j) h1 c]
theorem qc{o:Oper}{a:Act}{w:World}{K:Act->World->Prop}{E:Prop}(d:o.guard=none)(ty:TypeId)(x y:Operand)(ho:o.op=.store ty x y){B j:Nat}{t:TypeId}{xs vs:List Value}(hx:a.eval x=Sd (some ⟨B,j,none⟩))(b:a.eval y=.agg vs.toArray)(hB:Cl w B t xs)(hl:j+vs.length<=xs.length)(h1:∀v∈vs,v.oneCell'=true)(c:(P.info? ty).map (·.size)=some vs.length)
 (e:∀w',Cl w' B t (Dp xs j vs)->Jr B w w'->K (a.put o.dst undef) w'):if Region.wanted o (yielded ops a.tmps)=true then Oper.wp P o a w K Q else E:=
 uo d (vK ty x y ho hx b hB hl h1 c) (e _ (hB.WZ hl) (SE _ _ _ _))
theorem N7{rest:List Oper}{o:Oper}{a:Act}{w:World}(d:o.guard=none)(ty:TypeId)(x y:Operand)(ho:o.op=.store ty x y){B j:Nat}{t:TypeId}{xs vs:List Value}(hx:a.eval x=Sd (some ⟨B,j,none⟩))(b:a.eval y=.agg vs.toArray)(hB:Cl w B t xs)(hl:j+vs.length<=xs.length)(h1:∀v∈vs,v.oneCell'=true)(c:(P.info? ty).map (·.size)=some vs.length)
 (e:∀w',Cl w' B t (Dp xs j vs)->Jr B w w'->wpList P ops Q rest (a.put o.dst undef) w'):wpList P ops Q (o::rest) a w:=
 BF d (vK ty x y ho hx b hB hl h1 c) (e _ (hB.WZ hl) (SE _ _ _ _))
theorem N9{o:Oper}{a:Act}{w:World}(ty:TypeId)(x:Operand)(ho:o.op=.load ty x){B j:Nat}{cs:List Value}{d:TypeDesc}(hx:a.eval x=Sd (some ⟨B,j,none⟩))(hc:∀i v,cs[i]?=some v->w.cell? ⟨B,j+i,none⟩=some v)(c:P.underlying ty=some d)(hd:(match d with | .struct _ | .array _ _=>true|_=>false)=true)(b:(P.info? ty).map (·.size)=some cs.length):
 (execOp a.eval o).run P w=.ok (.value (.agg cs.toArray)) w:=by
 have hl:(loadCells (aA B j) cs.length).run P w=.ok cs.toArray w:=
  run_loadCells_list (P:=P) w (aA B j) cs (λi v hv=>by rw[Jl];exact hc i v hv)
 have hr:(loadVar ty (aA B j)).run P w=.ok (.agg cs.toArray) w:=by
  cases hq:P.info? ty with
  | none=>simp[hq]at b
  | some i=>
   have hs:i.size=cs.length:=by simpa[hq]using b
   have e:(isAgg ty).run P w=.ok true w:=by
    unfold isAgg;rw[Xi,Zt c w];cases d<;>simp_all
   simp[loadVar,e,sizeOf,typeInfo,hq,hs,hl]
 unfold execOp;simp only[ho,hx,Instr.loadAt,Instr.sureAddr,Xi,Tj,Sm,hr]
def Inf(P:Program)(e:TypeId)(size:Nat):Prop:=∃i z,P.info? e=some i/\i.zero=some z/\i.size=size/\z.cells.size=size/\i.bytes<=1000
theorem Jc{e:TypeId}{size:Nat}(h:((P.info? e).map λi=>(i.zero.map λz=>z.cells.size,i.size,decide (i.bytes<=1000)))=some (some size,size,true)):Inf P e size:=by
 cases hq:P.info? e with
 | none=>rw[hq]at h;cases h
 | some i=>
  rw[hq]at h;simp only[qy,Iw,iJ,Pe]at h;obtain⟨h1,h2,c⟩:=h;obtain⟨z,b,a⟩:=qC.1 h1;exact⟨i,z,hq,b,h2,a,c⟩
def Src(w:World)(sv:Value)(size m:Nat)(news:List Value):Prop:=((∃c,sv=Sa none 0 c)/\m=0/\news=[])\/∃ad c,sv=Sa (some ad) m c/\news.length=m*size/\∀j u,news[j]?=some u->w.cell? (ad.add j)=some u
theorem QH(w:World)(base:Nat)(t ty e:TypeId)(size:Nat)(ht:P.underlying t=some (.slice e))(q:Inf P e size)(j:0<size)(v:Value)(n:Nat)(xs:List Value)(b:w.ownsRow base e size v n xs)(f:Value)(m:Nat)(a:List Value)(hs:Src w f size m a)(h1:∀u∈a,u.oneCell'=true)(p:n+m<=2000000)(s:base<=w.heap.size):
 ∃v' w',(Builtin.append_ #[t,t] ty #[v,f]).run P w=.ok v' w'/\w'.ownsRow base e size v' (n+m) (xs++a)/\w.grownBy w' v.ownBlock/\(v'.ownBlock=v.ownBlock\/v'.ownBlock=some w.heap.size):=by
 obtain⟨i,z,d,hz,k,h,r⟩:=q;rcases hs with⟨⟨c,rfl⟩,rfl,rfl⟩|⟨A,c,rfl,hl,l⟩
 ·refine⟨v,w,?_,by simpa using b,⟨rfl,rfl,rfl,Y7 _,λ_ _ _=>rfl⟩,.inl rfl⟩;rcases b.2 with⟨rfl,rfl⟩|⟨g,cap,cur,rfl,hbg,hg,o,hcm,hcs,htake⟩
  ·simp[Builtin.append_,Zt ht,sizeOf,typeInfo,d,Builtin.lenOf,Builtin.firstCells]
  simp[Builtin.append_,Zt ht,sizeOf,typeInfo,d,Builtin.lenOf,Builtin.firstCells,loadCells,o,storeCells]
 obtain⟨v',w',hr,h2,y,h4,x⟩:=run_append_own_at (P:=P) w base t ty e i z size i.bytes ht d hz k rfl h j v n xs b A m c a hl l h1 (by simp only[maxLen];omega) (X7 (Nat.mul_le_mul p r) U5) s;exact⟨v',w',hr,h2,y,x⟩
theorem Ob{o:Oper}{a:Act}{w:World}{K:Act->World->Prop}{E:Prop}(k:o.guard=none)(s x:Operand)(t:TypeId)(ho:o.op=.call { callee:=.builtin .append,args:=#[s,x],argTypes:=#[t,t] })
 (base:Nat) (e:TypeId) (size:Nat) (ht:P.underlying t=some (.slice e)) (j:Inf P e size) (d:0<size) (v:Value) (n:Nat) (xs:List Value) (hs:a.eval s=v) (g:w.ownsRow base e size v n xs) (c:Value) (m:Nat) (b:List Value) (hx:a.eval x=c) (f:Src w c size m b) (h1:∀u∈b,u.oneCell'=true) (i:n+m<=2000000) (l:base<=w.heap.size)
 (h:∀v' w',w'.ownsRow base e size v' (n+m) (xs++b)->w.grownBy w' v.ownBlock->(v'.ownBlock=v.ownBlock\/v'.ownBlock=some w.heap.size)->K (a.put o.dst v') w'):if Region.wanted o (yielded ops a.tmps)=true then Oper.wp P o a w K Q else E:=by
 obtain⟨v',w',hr,h2,q,p⟩:=QH w base t o.type e size ht j d v n xs g c m b f h1 i l;refine EU k (v:=v') (w':=w') ?_ (h v' w' h2 q p);unfold execOp;simp only[ho,resolve,invoke,builtin,Xi,Tj,Sm,JJ,Xq,WE,hs,hx,hr]
theorem Lc{rest:List Oper}{o:Oper}{a:Act}{w:World}(k:o.guard=none)(s x:Operand)(t:TypeId)(ho:o.op=.call { callee:=.builtin .append,args:=#[s,x],argTypes:=#[t,t] })
 (base:Nat) (e:TypeId) (size:Nat) (ht:P.underlying t=some (.slice e)) (j:Inf P e size) (d:0<size) (v:Value) (n:Nat) (xs:List Value) (hs:a.eval s=v) (g:w.ownsRow base e size v n xs) (c:Value) (m:Nat) (b:List Value) (hx:a.eval x=c) (f:Src w c size m b) (h1:∀u∈b,u.oneCell'=true) (i:n+m<=2000000) (l:base<=w.heap.size)
 (h:∀v' w',w'.ownsRow base e size v' (n+m) (xs++b)->w.grownBy w' v.ownBlock->(v'.ownBlock=v.ownBlock\/v'.ownBlock=some w.heap.size)->wpList P ops Q rest (a.put o.dst v') w'):wpList P ops Q (o::rest) a w:=by
 obtain⟨v',w',hr,h2,q,p⟩:=QH w base t o.type e size ht j d v n xs g c m b f h1 i l;refine Oa k (v:=v') (w':=w') ?_ (h v' w' h2 q p);unfold execOp;simp only[ho,resolve,invoke,builtin,Xi,Tj,Sm,JJ,Xq,WE,hs,hx,hr]
end
section
variable{P:Program} (w:World)
end
section
variable{P:Program}{ops:Array Oper}{Q:Exit->Act->World->Prop}
end
end Go.Proofs.YtdgneicbmalnpaaGreatDoor
namespace Go.Proofs.YtdgneicbmalnpaaGreatDoor
open Proofs.Tryz Go.RowKit
section
variable{P:Program}{ops:Array Oper}{Q:Exit->Act->World->Prop}{md:Region.Mode}{S:World->Prop}{T:Nat}
end
section
variable{P:Program}{ops:Array Oper}{Q:Exit->Act->World->Prop}{md:Region.Mode}{S:World->Prop}{T n:Nat}{v:Value}{l:Array Bool}{a a1:Act}{w:World}{d:Option Nat}{op:Op}{ty:TypeId}{p:String}{af:Array Edge}{g:Option (Nat×Bool)}
theorem TV{i:Nat}(h:vw P md ops Q S T n (l.setIfInBounds i true) a1 w)(j:S w:=by assumption)(hr:nx l.toList 0 ops.toList=some i:=by exact rfl)(f:ops[i]?=some ⟨d,op,ty,p,af,g⟩:=by exact rfl)(b:(Du md ops T i&&Region.noSelect ops&&Region.free md ops l i&&(Region.ready md ops l).contains i)=true:=by kernel_rfl)(hw:(Region.wanted ⟨d,op,ty,p,af,g⟩ (yielded ops a.tmps)=true/\∀u,S u->(execOp a.eval ⟨d,op,ty,p,af,g⟩).run P u=.ok (.value v) u)\/(Region.wanted ⟨d,op,ty,p,af,g⟩ (yielded ops a.tmps)=false/\v=undef):=by first|exact .inr ⟨rfl,rfl⟩|(refine .inl ⟨rfl,?_⟩;intro wq hSw;(try dsimp only at hSw);go_simp;try with_reducible rfl))(hQ:∀c a w,Q (.panic c) (a.put d v) w->Q (.panic c) a w:=by first|exact λ_ _ _ h=>h|exact λ_ _ _ h=>hQ _ _ _ _ _ h)(k:a.put d v=a1:=by first|(simp only[qq];rfl)|rfl):vw P md ops Q S T (n+1) l a w:=by
 simp only[Fa]at b;exact bI b.1.1.1 f b.1.1.2 b.1.2 b.2 hQ (hw.imp id λ⟨h,e⟩=>⟨h,e⟩) j (k▸h)
theorem SC(i:Nat)(h:∀b:Act->World->Prop,Shut (∀a w,S w->(S w->vw P md ops Q S T n (l.setIfInBounds i true) a w)->b a w)->if Region.wanted ⟨d,op,ty,p,af,g⟩ (yielded ops a.tmps)=true then Oper.wp P ⟨d,op,ty,p,af,g⟩ a w b Q else b (a.put d undef) w)(ho:ops[i]?=some ⟨d,op,ty,p,af,g⟩:=by exact rfl)(c:i≠T:=by decide)(hr:Region.ready md ops l=[i]:=by kernel_rfl):vw P md ops Q S T (n+1) l a w:=lr ho c hr h
theorem lzq(h:∀b:Act->World->Prop,Shut (∀a w,vw P md ops Q S T n (l.setIfInBounds T true) a w->b a w)->if Region.wanted ⟨d,op,ty,p,af,g⟩ (yielded ops a.tmps)=true then Oper.wp P ⟨d,op,ty,p,af,g⟩ a w b Q else b (a.put d undef) w)(ho:ops[T]?=some ⟨d,op,ty,p,af,g⟩:=by exact rfl)(hr:Region.ready md ops l=[T]:=by kernel_rfl):vw P md ops Q S T (n+1) l a w:=lz ho hr h
