import Derived.Test.YtbgdfcmeheaiiaaGreatDoorEZA
import Derived.Test.YtbgdfcmeheaiiaaGreatDoorSI
set_option linter.unusedVariables false
set_option linter.unusedSimpArgs false
set_option maxHeartbeats 8000000
set_option maxRecDepth 100000
namespace Go.Proofs.YtbgdfcmeheaiiaaGreatDoor
open Proofs.Tryz Go.RowKit
variable{u w:World}{B base e n size:Nat}{old vs xs:List Value}{P:Program}{ops:Array Oper}{o:Oper}{a:Act}{v:Value}
theorem Ac{s t:BY}(h:¬s=t):¬s.toList=t.toList:=λe=>h (by
 apply mg;rw[ByteArray.toList_eq,ByteArray.toList_eq]at e;exact Xk.1 e)
theorem SH{a b:List G3}(c:a.length=b.length)(h:∀j,j<a.length->a.getD j ah=b.getD j ah):a=b:=by
 refine Qy c λj h1 h2=>?_;have:=h j h1;simpa[List.getD,D9 h1,D9 h2]using this
theorem c91(x y:R3)(A z:OA)(H F:Nat)(w:World)(hl:x.gs.length<=1048576)(hl':y.gs.length<=1048576)(N:W_ w A x.gs)(L:W_ w z y.gs):
 Calls prog 91 #[.agg #[.string x.key,.slice A x.gs.length H,.string x.out],.agg #[.string y.key,.slice z y.gs.length F,.string y.out]] w λe w'=>Rb (x=y) e/\Bw w w':=by
 obtain⟨g,a,f⟩:=x;obtain⟨q,c,p⟩:=y;simp only at hl hl' N L ⊢;obtain⟨V,hV⟩:∃V,V=((w.alloc (.cells #[vS g,vL A a.length H,vS f] 176)).alloc (.cells #[vS q,vL z c.length F,vS p] 176)):=⟨_,rfl⟩;have o:Bw w V:=by rw[hV];exact P6.alloc O4 _
 have hz:V.heap.size=w.heap.size+2:=by rw[hV];simp
 have a1:V.cell? (aW w 1)=some (vL A a.length H):=by rw[hV];simp[go_sem]
 have Q:V.cell? (aA (w.heap.size+1) 1)=some (vL z c.length F):=by rw[hV];simp[go_sem]
 have P:=V8 N o;have O:=V8 L o;have s:=U0 hV;by_cases r:g=q
 ·by_cases ho:f=p
  ·by_cases l:a.length=c.length
   ·rw[<- l];rw[<- l]at Q;subst r;subst ho;rw[<- l]at s;have t:=U0 l;clear l;obtain⟨b,off,hc⟩:=Lh P;obtain⟨b',off',K⟩:=Lh O;have HC:=U0 hc;have HC':=U0 K;clear hc K P O
    go_in
    go_wp2_with fail
    rw[<- s.out];go_loopw[5] (λi wr=>∃(k:Nat),k<=a.length/\i=.int .i64 k/\Hid (∀j,j<k->a.getD j ah=c.getD j ah)/\Below V.heap.size V wr) (λi _=>a.length-(RowKit.intOf i).toNat);exact⟨0,I4 _,rfl,λj h=>absurd h (U7 _),J4 _ _⟩;obtain⟨k,hk2,rfl,hd,d⟩:=hrel;have v:=P5 o d;have e1:=(d.cell (by exact(show w.heap.size<V.heap.size by omega))).trans a1;have e2:=(d.cell (by exact(show w.heap.size+1<V.heap.size by omega))).trans Q;by_cases n:k<a.length
    ·obtain⟨ha,E,C⟩:=Zb HC.out n;rcases HC'.out with Z|⟨ha',D,B⟩
     ·have l:=t.out;rw[Z]at l;rw[l]at n;exact absurd n (U7 _)
     subst ha;subst ha';have g0:=(d.cell (by exact E)).trans (C k n).1;have g1:=(d.cell (by exact E)).trans (C k n).2.1;have g2:=(d.cell (by exact E)).trans (C k n).2.2;have g0':=(d.cell (by exact D)).trans (B k (by have:=t.out;omega)).1;have g1':=(d.cell (by exact D)).trans (B k (by have:=t.out;omega)).2.1;have g2':=(d.cell (by exact D)).trans (B k (by have:=t.out;omega)).2.2;by_cases u:a.getD k ah=c.getD k ah
     ·have HD:Hid (∀j,j<k+1->a.getD j ah=c.getD j ah):=λj hj=>by
       rcases P7 j k with h|h
       ·exact hd j h
       obtain rfl:j=k:=O0;exact u
      rw[<- u]at g0' g1' g2';generalize a.getD k ah=X at*
      go_wp2_with fail
      go_region
      all_goals go_wp2
      all_goals go_roundw
      all_goals first
       | exact⟨k+1,O0,by go_num,HD,d.drew⟩
       | (exact P9)
     have m:Hid (¬R3.mk g a f=R3.mk g c f):=λh=>u (by injection h with _ h2;rw[h2]);generalize a.getD k ah=X at*;generalize c.getD k ah=Y at*;obtain⟨n1,R,U⟩:=X;obtain⟨n2,t2,S⟩:=Y;by_cases J:n1=n2
     ·subst J;by_cases I:R=t2
      ·subst I;have W:¬U=S:=λh=>u (by rw[h]);have q3':=Ac W
       go_wp2_with fail
       go_region
       all_goals go_wp2
       all_goals go_ret
       all_goals exact⟨I5 m.out,v.drew⟩
      have q2':=Ac I
      go_wp2_with fail
      go_region
      all_goals go_wp2
      all_goals go_ret
      all_goals exact⟨I5 m.out,v.drew⟩
     have q1':(n1==n2)=false:=by simpa using J
     go_wp2_with fail
     go_region
     all_goals go_wp2
     all_goals go_ret
     all_goals exact⟨I5 m.out,v.drew⟩
    obtain rfl:k=a.length:=O0;have HY:Hid (R3.mk g a f=R3.mk g c f):=by
     show R3.mk _ _ _=R3.mk _ _ _;rw[SH t.out hd.out]
    go_wp2;go_ret;exact⟨F_ HY,v⟩
   have m:Hid (¬R3.mk g a f=R3.mk q c p):=λh=>l (by injection h with _ h2;rw[h2]);subst r;subst ho;have hn1:¬(a.length:Int)=c.length:=O0
   go_in
   go_wp2_with fail
   rw[<- s.out];go_ret;exact⟨I5 m,o⟩
  have m:Hid (¬R3.mk g a f=R3.mk q c p):=λh=>ho (by injection h);subst r;have ho1:=Ac ho
  go_in
  go_wp2;go_ret;rw[<- s.out];exact⟨I5 m,o⟩
 have m:Hid (¬R3.mk g a f=R3.mk q c p):=λh=>r (by injection h);have hk1:=Ac r
 go_in
 go_wp2;go_ret;rw[<- s.out];exact⟨I5 m,o⟩
theorem a4p(c:Int)(w:World)(hc:c=0\/c=1\/c=2\/c=3\/c=4\/c=5\/c=7):
 Calls prog 379 #[.int .i64 c] w λe w'=>e=.returned (.string (Y2 [UInt8.ofNat (48+c).toNat]))/\w'=w:=by
 rcases hc with rfl|rfl|rfl|rfl|rfl|rfl|rfl
 all_goals
  go_in
  go_wp2;go_ret;exact⟨rfl,rfl⟩
theorem a2T(c:Int)(w:World)(hc:c=0\/c=1\/c=2\/c=3\/c=4\/c=5\/c=7):
 Calls prog 364 #[.int .i64 c,.int .i64 10] w λe w'=>e=.returned (.string (Y2 [UInt8.ofNat (48+c).toNat]))/\w'=w:=by
 have h1:0<=c:=O0;have h2:c<100:=O0;have H:=a4p c w hc;clear hc
 go_in
 go_wp2_with(go_at_call 379;refine H.mono ?_;rintro e w'⟨rfl,rfl⟩)
 go_ret;exact⟨rfl,rfl⟩
theorem a2S(c:Int)(w:World)(hc:c=0\/c=1\/c=2\/c=3\/c=4\/c=5\/c=7):
 Calls prog 335 #[.int .i64 c] w λe w'=>e=.returned (.string (Y2 [UInt8.ofNat (48+c).toNat]))/\w'=w:=by
 have H:=a2T c w hc
 go_in
 go_wp2_with(go_at_call 364;refine H.mono ?_;rintro e w'⟨rfl,rfl⟩)
 go_ret;exact⟨rfl,rfl⟩
theorem a4K(c:Int)(w:World)(hc:c=0\/c=1\/c=2\/c=3\/c=4\/c=5\/c=7):
 Calls prog 317 #[.int .i64 c] w λe w'=>e=.returned (.string (Y2 [UInt8.ofNat (48+c).toNat]))/\w'=w:=by
 have H:=a2S c w hc
 go_in
 go_wp2_with(go_at_call 335;refine H.mono ?_;rintro e w'⟨rfl,rfl⟩)
 go_ret;exact⟨rfl,rfl⟩
theorem OO(c:Int)(s:BY)(w:World)(f:s.size<=1048700):
 Calls prog 295 #[.agg #[.int .i64 c,.string s]] w λe w'=>e=.returned (.string (Y2 (S9 c s.data.toList)))/\Bw w w':=by
 go_in
 go_wp2_with fail
 refine(wO _ _ _ f).mono ?_;rintro e d⟨rfl,a⟩;have b:=((J4 w.heap.size w).alloc Y8 (.cells #[vI c,vS s] 71)).trans (a.mono O4);have g10:d.cell? (aW w 0)=some (vI c):=by rw[a.cell O4];simp
 have g11:d.cell? (aW w 1)=some (vS s):=by rw[a.cell O4];simp
 cases hv:vr c s.data.toList
 ·have hF:=UJ hv;go_wp2;go_ret;exact⟨hF,b⟩
 have hc:=Gh hv;have hF:=U0 (lH hv);have hz:(Y2 [UInt8.ofNat (48+c).toNat]).size=1:=rfl;clear hv
 go_wp2_with fail
 go_region_with(go_at_call 317;refine(a4K _ _ hc).mono ?_;rintro e w'⟨rfl,rfl⟩)
 all_goals go_wp2
 all_goals go_ret
 all_goals exact⟨by rw[hF.out];rfl,by first|exact b|exact b.drew⟩
theorem a4M(b:Bool)(w:World):Calls prog 269 #[.bool b] w λe w'=>e=.returned (.string (if b then⟨#[49]⟩ else⟨#[48]⟩))/\Bw w w':=by
 cases b
 ·go_in
  go_wp2;go_ret;exact⟨rfl,J4 _ _⟩
 go_in
 go_wp2;go_ret;exact⟨rfl,J4 _ _⟩
def Fe(m:M3):BY:=m.tl++⟨#[32]⟩++m.ar
theorem a1Y(m:M3)(w:World)(hm:m.le 1048600):Calls prog 296 #[.agg #[.string m.nm,.string m.tl,.string m.ar]] w λe w'=>e=.returned (.string (Fe m))/\Bw w w':=by
 have h1:=hm.2.1;have h2:=hm.2.2;have hB:∀o,Bw w (w.alloc o):=λo=>P6
 go_in
 go_wp2;go_ret;exact⟨rfl,hB _⟩
def iq(x:L4):BY:=if x.has then(if x.cd=0 then⟨#[49]⟩ else⟨#[48]⟩) else Y2 (S9 x.cd x.tx.data.toList)
theorem a4o(x:L4)(w:World)(hx:x.tx.size<=1048700):Calls prog 329 #[.agg #[.bool x.has,.string x.nm,.int .i64 x.cd,.string x.tx]] w λe w'=>e=.returned (.string (iq x))/\Bw w w':=by
 obtain⟨h,nm,cd,tx⟩:=x;simp only at hx ⊢;have hB:∀o,Bw w (w.alloc o):=λo=>P6;cases h
 ·go_in
  go_wp2_with fail
  refine(OO cd tx _ hx).mono ?_;rintro e w1⟨rfl,a⟩;have c:=(hB (.cells #[.bool false,vS nm,vI cd,vS tx] 201)).trans (a.mono O4);go_wp2;go_ret;exact⟨rfl,c⟩
 by_cases h0:cd=0
 ·subst h0
  go_in
  go_wp2;go_ret;exact⟨rfl,hB _⟩
 have h1:(cd==0)=false:=by simpa using h0
 have b:Hid (iq ⟨true,nm,cd,tx⟩=⟨#[48]⟩):=by show iq _=_;unfold iq;simp[h0]
 go_in
 go_wp2;go_ret;exact⟨by rw[b.out];rfl,hB _⟩
theorem a3G(a c:List G3)(A z:OA)(N L:Nat)(w:World)(hl:a.length<=1048576)(hl':c.length<=1048576)(y:W_ w A a)(x:W_ w z c):
 Calls prog 250 #[.slice A a.length N,.slice z c.length L] w λe w'=>Rb (a=c) e/\Bw w w':=by
 by_cases f:a.length=c.length
 ·rw[<- f];have m:=U0 f;clear f;obtain⟨b,off,hc⟩:=Lh y;obtain⟨b',off',v⟩:=Lh x;have R:=U0 hc;have Q:=U0 v;clear hc v y x
  go_in
  go_wp2;go_loopw[13] (λi wr=>∃(k:Nat),k<=a.length/\i=.int .i64 k/\Hid (∀j,j<k->a.getD j ah=c.getD j ah)/\Below w.heap.size w wr) (λi _=>a.length-(RowKit.intOf i).toNat);exact⟨0,I4 _,rfl,λj h=>absurd h (U7 _),J4 _ _⟩;obtain⟨k,hk2,rfl,hd,d⟩:=hrel;have q:=d;by_cases g:k<a.length
  ·obtain⟨ha,s,p⟩:=Zb R.out g;rcases Q.out with F|⟨H,r,o⟩
   ·have f:=m.out;rw[F]at f;rw[f]at g;exact absurd g (U7 _)
   subst ha;subst H;have g0:=(d.cell (by exact s)).trans (p k g).1;have g1:=(d.cell (by exact s)).trans (p k g).2.1;have g2:=(d.cell (by exact s)).trans (p k g).2.2;have K:=(d.cell (by exact r)).trans (o k (by have:=m.out;omega)).1;have J:=(d.cell (by exact r)).trans (o k (by have:=m.out;omega)).2.1;have I:=(d.cell (by exact r)).trans (o k (by have:=m.out;omega)).2.2;clear p o;by_cases l:a.getD k ah=c.getD k ah
   ·have P:Hid (∀j,j<k+1->a.getD j ah=c.getD j ah):=λj hj=>by
     rcases P7 j k with h|h
     ·exact hd.out j h
     obtain rfl:j=k:=O0;exact l
    rw[<- l]at K J I;generalize a.getD k ah=X at*;clear l hd
    go_wp2_with fail
    go_region
    all_goals go_wp2
    all_goals go_roundw
    all_goals first
     | exact⟨k+1,O0,by go_num,P,d.drew⟩
     | (exact P9)
   have n:Hid (¬a=c):=λh=>l (by rw[h]);generalize a.getD k ah=X at*;generalize c.getD k ah=Y at*;obtain⟨n1,B,D⟩:=X;obtain⟨n2,t2,C⟩:=Y;by_cases u:n1=n2
   ·subst u;by_cases t:B=t2
    ·subst t;have E:¬D=C:=λh=>l (by rw[h]);have q3':=Ac E
     go_wp2_with fail
     go_region
     all_goals go_wp2
     all_goals go_ret
     all_goals exact⟨I5 n.out,q.drew⟩
    have q2':=Ac t
    go_wp2_with fail
    go_region
    all_goals go_wp2
    all_goals go_ret
    all_goals exact⟨I5 n.out,q.drew⟩
   have q1':(n1==n2)=false:=by simpa using u
   go_wp2_with fail
   go_region
   all_goals go_wp2
   all_goals go_ret
   all_goals exact⟨I5 n.out,q.drew⟩
  obtain rfl:k=a.length:=O0;have O:Hid (a=c):=by
   exact SH m hd
  go_wp2;go_ret;exact⟨F_ O,q⟩
 have n:Hid (¬a=c):=λh=>f (by rw[h]);have hn1:¬(a.length:Int)=c.length:=O0
 go_in
 go_wp2;go_ret;exact⟨I5 n,J4 _ _⟩
theorem E5.a1e(h:E5 u B old)(hl:old.length=vs.length):E5 (Go.Proofs.YtbgdfcmeheaiiaaGreatDoor.fill u B 0 vs) B vs:=by
 have k:=E5.fill vs [] old [] 0 (by simpa using h) hl rfl;simpa using k
theorem YS(hB:E5 u B old)(hl:old.length=vs.length):∀i,i<vs.length->(u.cell? ⟨B,0+i,none⟩).isSome=true:=λi hi=>by
 rw[l7,hB i _ (D9 O0)];rfl
theorem Jc{K:Act->World->Prop}{Q:Exit->Act->World->Prop}{E:Prop}(d:o.guard=none)(ty:TypeId)(x y:Operand)(ho:o.op=.store ty x y)
 (B j:Nat) (hx:a.eval x=.pointer (some ⟨B,j,none⟩)) (vs:List Value) (b:a.eval y=.agg vs.toArray) (hc:∀i,i<vs.length->(w.cell? ⟨B,j+i,none⟩).isSome=true) (hf:o9 w B) (h1:∀v∈vs,v.oneCell'=true)
 (c:(P.info? ty).map (·.size)=some vs.length) (e:o.dst=none) (h:K a (fill w B j vs)):
 if Region.wanted o (yielded ops a.tmps)=true then Oper.wp P o a w K Q else E:=by
 have hw:Region.wanted o (yielded ops a.tmps)=true:=by simp[Region.wanted,d]
 rw[D8 hw];unfold Oper.wp execOp;simp only[ho,hx,b,Instr.storeAt,Instr.sureAddr,zi,uo,Nl,xh w B j ty vs hc hf h1 c]
 first
  | exact h
  | (simp only[Oper.upon];exact h)
  | (simp only[Oper.upon,e];exact h)
theorem a3w(x:L4)(W:Int)(H:Nat)(w:World)(hx:x.tx.size<=1048600)(hH:H<w.heap.size)(L:w.cell? ⟨H,0,none⟩=some (.int .i64 W))(J:(iq x).size<=1048700):
 Calls prog 297 #[.pointer (some ⟨H,0,none⟩),.agg #[.bool x.has,.string x.nm,.int .i64 x.cd,.string x.tx]] w λe w'=>e=.returned (.agg #[.bool x.has,.string x.nm,.string (G6 (iq x) W)])/\Bw w w':=by
 replace hx:x.tx.size<=1048700:=O0
 have p:Bw w ((w.alloc (.cells #[.bool x.has,vS x.nm,vI x.cd,vS x.tx] 201)).alloc (.cells #[.bool false,vE,vE] 256)):=P6.alloc O4 _;have hz:((w.alloc (.cells #[.bool x.has,vS x.nm,vI x.cd,vS x.tx] 201)).alloc (.cells #[.bool false,vE,vE] 256)).heap.size=w.heap.size+2:=O4;have g:=(p.cell (by exact hH)).trans L;have a:=U0 ((I9 w [.bool x.has,vS x.nm,vI x.cd,vS x.tx] 201).below ((J4 _ _).alloc Y8 (.cells #[.bool false,vE,vE] 256)) O4);have X:Hid (E5 ((w.alloc (.cells #[.bool x.has,vS x.nm,vI x.cd,vS x.tx] 201)).alloc (.cells #[.bool false,vE,vE] 256)) (w.heap.size+1) [.bool false,vE,vE]):=λj x hx=>by simp[go_sem,hx]
 have Y:Hid (o9 ((w.alloc (.cells #[.bool x.has,vS x.nm,vI x.cd,vS x.tx] 201)).alloc (.cells #[.bool false,vE,vE] 256)) (w.heap.size+1)):=λj=>by simp[go_sem]
 go_in
 go_wp2_with fail
 generalize ((w.alloc (.cells #[.bool x.has,vS x.nm,vI x.cd,vS x.tx] 201)).alloc (.cells #[.bool false,vE,vE] 256))=V at*;have d:Bw V V.drew:=(J4 _ _).drew;have F:=(a.out.below d O0) 0 _ rfl;have C:=(a.out.below d O0) 1 _ rfl;have A:=(a.out.below d O0) 2 _ rfl;have y:=(a.out.below d O0) 3 _ rfl;have s:=(d.cell (by exact(show H<V.heap.size by omega))).trans g;refine wp_region_held_drew (S:=(λu=>u.cell? (aW w 0)=some (.bool x.has)/\u.cell? (aW w 1)=some (vS x.nm)/\u.cell? (aW w 2)=some (vI x.cd)/\u.cell? (aW w 3)=some (vS x.tx)/\u.cell? (aA H 0)=some (vI W))) Y0 ?_ λhHeld=>?_
 ·exact⟨F,C,A,y,s⟩
 refine U8 0 ?_;refine U8 1 ?_;refine U8 2 ?_;refine U8 3 ?_;refine U8 4 ?_;refine U8 6 ?_;refine U8 7 ?_;refine U8 8 ?_;refine U8 9 ?_;refine rq 5 λK b=>?_;go_simp;refine(a4o x V.drew hx).mono ?_;rintro e r⟨rfl,o⟩;have h1:=P5 d o;clear o;have I:=(a.out.below h1 O0) 0 _ rfl;have D:=(a.out.below h1 O0) 1 _ rfl;have B:=(a.out.below h1 O0) 2 _ rfl;have z:=(a.out.below h1 O0) 3 _ rfl;have t:=(h1.cell (by exact(show H<V.heap.size by omega))).trans g;go_simp;clear hHeld;refine X8 b ?_ λhHeld=>?_
 ·exact⟨I,D,B,z,t⟩
 clear b K;refine rq 10 λK b=>?_;go_simp;refine(c167 (iq x) W r J).mono ?_;rintro e f⟨rfl,n⟩;have h2:=P5 h1 n;clear n;have m:=(a.out.below h2 O0) 0 _ rfl;have l:=(a.out.below h2 O0) 1 _ rfl;have k:=(a.out.below h2 O0) 2 _ rfl;have i:=(a.out.below h2 O0) 3 _ rfl;have h:=(h2.cell (by exact(show H<V.heap.size by omega))).trans g;go_simp;clear hHeld;refine X8 b ?_ λhHeld=>?_
 ·exact⟨m,l,k,i,h⟩
 clear b K;refine sq ?_;refine rq 12 λK b=>?_;have q:=U0 (X.out.below h2 O0);have F2:=U0 (Y.out.below h2 O0);refine Jc rfl 256 (.tmp 4) (.tmp 16) rfl (w.heap.size+1) 0 rfl [.bool x.has,vS x.nm,vS (G6 (iq x) W)] rfl (YS q.out rfl) F2.out (by simp[Value.oneCell']) Y0 rfl ?_;clear hHeld;have c:Below (w.heap.size+1) f (fill f (w.heap.size+1) 0 [.bool x.has,vS x.nm,vS (G6 (iq x) W)]):=Ya Y8 _ _ (J4 _ _);have U:=U0 (q.out.a1e (vs:=[.bool x.has,vS x.nm,vS (G6 (iq x) W)]) rfl);have hs2:=h2.size;have R:=(c.cell (by exact(show w.heap.size<_ by omega))).trans m;have Q:=(c.cell (by exact(show w.heap.size<_ by omega))).trans l;have c2:=(c.cell (by exact(show w.heap.size<_ by omega))).trans k;have c3:=(c.cell (by exact(show w.heap.size<_ by omega))).trans i;have O:=(c.cell (by exact(show H<_ by omega))).trans h;have N:=(P5 p h2).trans (c.mono O0);generalize fill f (w.heap.size+1) 0 [.bool x.has,vS x.nm,vS (G6 (iq x) W)]=E at*;refine b.out _ _ ⟨R,Q,c2,c3,O⟩ λhHeld=>?_;clear b K;refine wdn ?_
 go_wp2_with fail
 refine o7 (v:=.agg ([.bool x.has,vS x.nm,vS (G6 (iq x) W)]:List Value).toArray) (I8 (P:=prog) (ty:=256) rfl _ E (w.heap.size+1) [.bool x.has,vS x.nm,vS (G6 (iq x) W)] _ rfl U.out underlying256 rfl Y0) rfl ⟨rfl,N⟩
theorem a2N(x y:R3)(g f:OA)(j i:Nat)(w:World)(hl:x.gs.length<=1048576)(r:y.gs.length<=1048576)(t:W_ w g x.gs)(s:W_ w f y.gs):
 Calls prog 180 #[.agg #[.string x.key,.slice g x.gs.length j,.string x.out],.agg #[.string y.key,.slice f y.gs.length i,.string y.out]] w λe w'=>Rb (x=y) e/\Bw w w':=by
 obtain⟨a,d,b⟩:=x;obtain⟨n,c,k⟩:=y;simp only at hl r t s ⊢;have hB:∀o p,Bw w ((w.alloc o).alloc p):=λo p=>P6.alloc O4 _;by_cases l:a=n
 ·subst l;by_cases ho:b=k
  ·subst ho;have C:=U0 (V8 t (hB (.cells #[vS a,vL g d.length j,vS b] 176) (.cells #[vS a,vL f c.length i,vS b] 176)));have B:=U0 (V8 s (hB (.cells #[vS a,vL g d.length j,vS b] 176) (.cells #[vS a,vL f c.length i,vS b] 176)));have A:=hB (.cells #[vS a,vL g d.length j,vS b] 176) (.cells #[vS a,vL f c.length i,vS b] 176)
   go_in
   go_wp2_with fail
   refine(a3G d c g f j i _ hl r C B).mono ?_;rintro e w1⟨hR,v⟩;have z:=P5 A v;obtain⟨q,rfl,u⟩:=hR;have D:Hid (Rb (R3.mk a d b=R3.mk a c b) (.returned (.bool q))):=⟨q,rfl,u.trans ⟨λh=>by rw[h],λh=>by injection h⟩⟩;go_wp2;go_ret;exact⟨D,z⟩
  have m:Hid (¬R3.mk a d b=R3.mk a c k):=λh=>ho (by injection h);have ho1:=Ac ho
  go_in
  go_wp2;go_ret;exact⟨I5 m,hB _ _⟩
 have m:Hid (¬R3.mk a d b=R3.mk n c k):=λh=>l (by injection h);have hk1:=Ac l
 go_in
 go_wp2;go_ret;exact⟨I5 m,hB _ _⟩
theorem zA{rest:List Oper}{Q:Exit->Act->World->Prop}
 (r:o.guard=none) (s x:Operand) (t:TypeId) (p:o.op=Op.call { callee:=Callee.builtin Builtin.append,args:=#[s,x],argTypes:=#[t,t] })
 (base:Nat) (e:TypeId) (i:TypeInfo) (z:Value) (size bytes:Nat) (h1:P.underlying t=some (.slice e)) (h2:P.info? e=some i) (H:i.zero=some z) (F:i.size=size) (E:i.bytes=bytes) (D:z.cells.size=size) (C:0<size)
 (v:Value) (n:Nat) (xs:List Value) (h:a.eval s=v) (l:w.ownsRow base e size v n xs)
 (d:Addr) (m c:Nat) (b:List Value) (hx:a.eval x=.slice (some d) m c) (q:b.length=m*size) (hc:∀j u,b[j]?=some u->w.cell? (d.add j)=some u) (I:∀u∈b,u.oneCell'=true)
 (L:n+m<=maxLen) (J:(n+m)*bytes<=140737488355328) (y:base<=w.heap.size)
 (B:∀v' w',w'.ownsRow base e size v' (n+m) (xs++b)->w.grownBy w' v.ownBlock->wpList P ops Q rest (a.put o.dst v') w'):wpList P ops Q (o::rest) a w:=by
 refine qw r λK A=>?_;obtain⟨v',w',k,g,f,_⟩:=run_append_own (P:=P) w base t o.type e i z size bytes h1 h2 H F E D C v n xs l d m c b q hc I L J y;unfold Oper.wp;simp[execOp,p,resolve,invoke,builtin,h,hx,k,Result.andThen];exact A _ _ (B v' w' g f)
theorem Y6(h:u.ownsRow base e size v n xs){k:Nat}(a:v.ownBlock=some k):base<=k:=by
 rcases h.2 with⟨hv,_⟩|⟨g,cap,cur,hv,hg,hh,_⟩
 ·subst hv;simp[Value.ownBlock]at a
 subst hv;simp[Value.ownBlock]at a;omega
theorem Z9(h:u.ownsRow base e size v n xs):∃a c,v=.slice a n c:=by
 rcases h.2 with⟨hv,h0⟩|⟨g,cap,cur,hv,hg,hh,_⟩
 ·exact⟨none,0,by rw[hv,h0]⟩
 exact⟨_,_,hv⟩
def B_:List L4->List (Int×ByteArray)
 | []=>[]
 | x::r=>if x.has then B_ r else(x.cd,x.tx)::B_ r
theorem Du(l:List L4)(x:L4):B_ (l++[x])=B_ l++(if x.has then [] else [(x.cd,x.tx)]):=by
 induction l with
 | nil=>cases h:x.has<;>simp[B_,h]
 | cons y r ih=>cases h:y.has<;>simp[B_,h,ih]
theorem qB(l:List L4):(B_ l).length<=l.length:=by
 induction l with
 | nil=>exact J9 _
 | cons y r ih=>cases h:y.has<;>simp[B_,h]<;>omega
def XB(rs:List (Int×ByteArray)):List Value:=rs.flatMap λr=>[.int .i64 r.1,.string r.2]
theorem JC(l:List (Int×ByteArray))(c:Int)(s:BY):XB (l++[(c,s)])=XB l++[.int .i64 c,.string s]:=by simp[XB]
theorem Yu{l:List L4}{k:Nat}(h:k<l.length):l.take (k+1)=l.take k++[l.getD k l_]:=by
 rw[Rq,D9 h];simp[List.getD,D9 h]
theorem ZR:(prog.info? 71).map (λi=>(i.zero,i.size,i.bytes))=some (some (.agg #[.int .i64 0,.string ⟨#[]⟩]),2,24):=Y0
theorem info_parts'{e:TypeId}{z:Value}{m:Nat}(h:(P.info? e).map (λi=>(i.zero,i.size,i.bytes))=some (some z,n,m)):∃i,P.info? e=some i/\i.zero=some z/\i.size=n/\i.bytes=m:=by
 cases hq:P.info? e with
 | none=>simp[hq]at h
 | some i=>
  simp only[hq,yu,Au,UI]at h;exact⟨i,rfl,h.1,h.2.1,h.2.2⟩
theorem a1N(ls:List L4)(a:OA)(L:Nat)(w:World)(hl:ls.length<=1048576)(t:X6 w a ls):
 Calls prog 294 #[.slice a ls.length L] w λe w'=>(∃v,e=.returned v/\w'.ownsRow w.heap.size 71 2 v (B_ ls).length (XB (B_ ls)))/\Bw w w':=by
 obtain⟨B,H,E,D,C⟩:=info_parts' ZR;obtain⟨b,off,hc⟩:=Ie t;have Q:=U0 hc;clear hc t
 go_in
 go_wp2;go_loopw[3,8] (λv i wr=>∃(k:Nat),k<=ls.length/\i=.int .i64 k/\Hid (wr.ownsRow w.heap.size 71 2 v (B_ (ls.take k)).length (XB (B_ (ls.take k))))/\Below w.heap.size w wr) (λ_ i _=>ls.length-(RowKit.intOf i).toNat);exact⟨0,I4 _,rfl,og _ _ _ _,J4 _ _⟩;obtain⟨k,hk,rfl,g,c⟩:=hrel;by_cases d:k<ls.length
 ·obtain⟨ha,l,f⟩:=Zb Q.out d;subst ha;have g0:=(c.cell (by exact l)).trans (f k d).1;have g1:=(c.cell (by exact l)).trans (f k d).2.1;have g2:=(c.cell (by exact l)).trans (f k d).2.2.1;have g3:=(c.cell (by exact l)).trans (f k d).2.2.2;have y:=U0 (Yu d);have hln:(B_ (ls.take k)).length<=1048576:=Q8 (qB _) X7;clear f;generalize hx:ls.getD k l_=x at*;clear hx;obtain⟨h,nm,cd,tx⟩:=x;simp only at g0 g1 g2 g3;have r:=c.size;cases h
  ·have o:Hid (B_ (ls.take (k+1))=B_ (ls.take k)++[(cd,tx)]):=by
    show B_ _=_;rw[y.out,Du];simp
   have J:Bw w ((wr.alloc (.cells #[.bool false,.string nm,.int .i64 cd,.string tx] 201)).alloc (.cells #[.int .i64 cd,.string tx] 71)):=(c.alloc r _).alloc X7 _;have p:=U0 (lJ (lJ g.out (.cells #[.bool false,.string nm,.int .i64 cd,.string tx] 201)) (.cells #[.int .i64 cd,.string tx] 71));have hzA:((wr.alloc (.cells #[.bool false,.string nm,.int .i64 cd,.string tx] 201)).alloc (.cells #[.int .i64 cd,.string tx] 71)).heap.size=wr.heap.size+2:=O4;have z:Hid (∀j u,([.int .i64 cd,.string tx]:List Value)[j]?=some u->((wr.alloc (.cells #[.bool false,.string nm,.int .i64 cd,.string tx] 201)).alloc (.cells #[.int .i64 cd,.string tx] 71)).cell? ((aA (wr.heap.size+1) 0).add j)=some u):=λj u m=>by
    rw[Sj,l7]
    match j with
    | 0=>obtain rfl:=D_ m;simp[go_sem]
    | 1=>obtain rfl:=D_ m;simp[go_sem]
    | j+2=>simp at m
   clear g
   go_wp2_with(refine zA rfl (.tmp 15) (.tmp 18) 422 rfl w.heap.size 71 B (.agg #[.int .i64 0,.string ⟨#[]⟩]) 2 24 underlying422 H E D C rfl J6 _ _ _ rfl p.out ⟨wr.heap.size+1,0,none⟩ 1 1 [.int .i64 cd,.string tx] rfl rfl z.out (by simp[Value.oneCell']) (by unfold maxLen;omega) O0 O0 ?_;intro v2 A n s;obtain⟨a2,c2,rfl⟩:=Z9 n;have O:=U0 n;have I:Bw w A:=J.grown s O0 (λq F=>Y6 p.out F);clear n s p z)
   go_roundw;exact⟨k+1,O0,by go_num,by rw[o.out,JC,L9];exact O.out,I⟩;exact P9
  have o:Hid (B_ (ls.take (k+1))=B_ (ls.take k)):=by
   show B_ _=_;rw[y.out,Du];simp
  have K:Bw w (wr.alloc (.cells #[.bool true,.string nm,.int .i64 cd,.string tx] 201)):=c.alloc r _;have R:=U0 (lJ g.out (.cells #[.bool true,.string nm,.int .i64 cd,.string tx] 201));go_wp2;go_roundw;exact⟨k+1,O0,by go_num,by rw[o.out];exact R.out,K⟩;exact P9
 obtain rfl:k=ls.length:=O0;obtain⟨N,c3,rfl⟩:=Z9 g.out;have P:Hid (wr.ownsRow w.heap.size 71 2 (.slice N (B_ (List.take ls.length ls)).length c3) (B_ ls).length (XB (B_ ls))):=by show World.ownsRow _ _ _ _ _ _ _;have h:=g.out;rw[qp]at h ⊢;exact h
 go_wp2;go_ret;exact⟨⟨_,rfl,P.out⟩,c⟩
