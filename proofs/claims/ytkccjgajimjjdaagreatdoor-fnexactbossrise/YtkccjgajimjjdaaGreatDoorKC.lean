import Derived.Test.YtkccjgajimjjdaaGreatDoorEZA
import Derived.Test.YtkccjgajimjjdaaGreatDoorSI
import Derived.Maps.AppendAt
import Derived.Laws.OwnMore
set_option linter.unusedVariables false
set_option maxRecDepth 100000
set_option maxHeartbeats 8000000
namespace Go.Proofs.YtkccjgajimjjdaaGreatDoor
open Proofs.Tryz Go.RowKit
def ji(x:L4):Prop:=X6 x.nm.data.toList=true/\((x.has=true/\((x.cd=0/\x.tx=⟨#[]⟩)\/(x.cd=4/\x.tx=x.nm)))\/(x.has=false/\vr x.cd x.tx.data.toList=true))
def zn(P:Prop)(e:Ending):Prop:=∃r,e=.returned (.bool r)/\(r=true↔P)
theorem S_{P:Prop}(h:¬P):zn P (.returned (.bool false)):=⟨false,rfl,⟨λh=>absurd h Ik,λk=>absurd k h⟩⟩
theorem Yk{P:Prop}(h:P):zn P (.returned (.bool true)):=⟨true,rfl,⟨λ_=>h,λ_=>rfl⟩⟩
theorem Vo(x y:BY):x.toList=y.toList↔x=y:=⟨λh=>by
 rw[ByteArray.toList_eq,ByteArray.toList_eq]at h;exact Xf (Zl.1 h),λh=>by rw[h]⟩
theorem a0L(x:BY):x.toList=[]↔x=⟨#[]⟩:=by
 rw[ByteArray.toList_eq];exact⟨λh=>Xf (Zl.1 h),λh=>by rw[h]⟩
theorem UD{x:L4}(h:X6 x.nm.data.toList=false):¬ji x:=λk=>absurd (k.1.symm.trans h) Z5
theorem WS{x:L4}(b:X6 x.nm.data.toList=true)(a:x.has=false):ji x↔vr x.cd x.tx.data.toList=true:=by
 constructor
 ·rintro⟨_,⟨h,_⟩|⟨_,h⟩⟩
  ·rw[a]at h;cases h
  exact h
 exact λh=>⟨b,.inr ⟨a,h⟩⟩
theorem TS{x:L4}(b:X6 x.nm.data.toList=true)(a:x.has=true):ji x↔((x.cd=0/\x.tx.toList=[])\/(x.cd=4/\x.tx.toList=x.nm.toList)):=by
 rw[a0L,Vo];constructor
 ·rintro⟨_,⟨_,h⟩|⟨h,_⟩⟩
  ·exact h
  rw[a]at h;cases h
 exact λh=>⟨b,.inl ⟨a,h⟩⟩
theorem a3L(x:L4)(w:World)(c:x.le 1048600):
 Calls prog 172 #[.agg #[.bool x.has,.string x.nm,.int .i64 x.cd,.string x.tx]] w λe w'=>zn (ji x) e/\Bw w w':=by
 obtain⟨s1,s2⟩:=c;have a:∀o,Bw w (w.alloc o):=λo=>Y6;cases hn:X6 x.nm.data.toList
 ·have g:=U0 (S_ (UD hn))
  go_in
  go_wp2_with fail
  refine(VO x.nm _ O0).mono ?_;rintro e w1⟨rfl,hw⟩;obtain rfl:=hw.symm;rw[hn];go_wp2;go_ret;exact⟨g.out,a _⟩
 cases hh:x.has
 ·have b:=U0 (WS hn hh)
  go_in
  go_wp2_with fail
  refine(VO x.nm _ O0).mono ?_;rintro e w1⟨rfl,hw⟩;obtain rfl:=hw.symm;rw[hn]
  go_wp2_with fail
  refine(zQ x.cd x.tx _ O0).mono ?_;rintro e w2⟨rfl,d⟩;have f:=(a _).trans (d.mono E5);go_wp2;go_ret;exact⟨⟨_,rfl,b.out.symm⟩,f⟩
 have b:=U0 (TS hn hh)
 skip
 all_goals
  go_in
  go_wp2_with fail
  refine(VO x.nm _ O0).mono ?_;rintro e w1⟨rfl,hw⟩;obtain rfl:=hw.symm;rw[hn];go_wp2
  all_goals go_ret
  all_goals first
   | exact⟨Yk (b.out.2 (by simp[*])),a _⟩
   | exact⟨S_ (λh=>by have:=b.out.1 h;simp[*]at this),a _⟩
   | exact⟨Yk (b.out.2 (by simp[*])),(a _).alloc E5 _⟩
   | exact⟨S_ (λh=>by have:=b.out.1 h;simp[*]at this),(a _).alloc E5 _⟩
theorem a5e(x:L4)(w:World)(d:x.le 1048600):
 Calls prog 245 #[.agg #[.bool x.has,.string x.nm,.int .i64 x.cd,.string x.tx]] w λe w'=>zn (ji x) e/\Bw w w':=by
 obtain⟨s1,s2⟩:=d;have a:∀o,Bw w (w.alloc o):=λo=>Y6;cases hh:x.has
 ·cases hn:X6 x.nm.data.toList
  ·have c:=U0 (S_ (UD hn))
   go_in
   go_wp2_with fail
   refine(c148 x.nm _ O0).mono ?_;rintro e w1⟨rfl,hw⟩;obtain rfl:=hw.symm;rw[hn];go_wp2;go_ret;exact⟨c.out,a _⟩
  have b:=U0 (WS hn hh)
  go_in
  go_wp2_with fail
  refine(c148 x.nm _ O0).mono ?_;rintro e w1⟨rfl,hw⟩;obtain rfl:=hw.symm;rw[hn]
  go_wp2_with fail
  refine(c203 x.cd x.tx _ O0).mono ?_;rintro e w2⟨rfl,f⟩;have g:=(a _).trans (f.mono E5);go_wp2;go_ret;exact⟨⟨_,rfl,b.out.symm⟩,g⟩
 cases hn:X6 x.nm.data.toList
 ·have c:=U0 (S_ (UD hn))
  go_in
  go_wp2_with fail
  refine(c148 x.nm _ O0).mono ?_;rintro e w1⟨rfl,hw⟩;obtain rfl:=hw.symm;rw[hn];go_wp2;go_ret;exact⟨c.out,(a _).alloc E5 _⟩
 have b:=U0 (TS hn hh)
 skip
 all_goals
  go_in
  go_wp2_with fail
  refine(c148 x.nm _ O0).mono ?_;rintro e w1⟨rfl,hw⟩;obtain rfl:=hw.symm;rw[hn];go_wp2
  all_goals go_ret
  all_goals first
   | exact⟨Yk (b.out.2 (by simp[*])),(a _).alloc E5 _⟩
   | exact⟨S_ (λh=>by have:=b.out.1 h;simp[*]at this),(a _).alloc E5 _⟩
   | exact⟨Yk (b.out.2 (by simp[*])),((a _).alloc E5 _).alloc Q8 _⟩
   | exact⟨S_ (λh=>by have:=b.out.1 h;simp[*]at this),((a _).alloc E5 _).alloc Q8 _⟩
def yg(ls:List L4):Prop:=ls.length<=15/\∀i,i<ls.length->ji (ls.getD i M_)
theorem c119(a:OA)(cap:Nat)(ls:List L4)(w:World)(hl:ls.length<=1048576)(s:∀i,(ls.getD i M_).le 1048576)(z:S9 w a ls):
 Calls prog 119 #[.slice a ls.length cap] w λe w'=>zn (yg ls) e/\Bw w w':=by
 obtain⟨b,off,hc⟩:=Yg z;have C:=U0 hc;have B:=U0 s;by_cases hbig:15<ls.length
 ·have n:Hid (zn (yg ls) (.returned (.bool false))):=S_ (λh=>by have:=h.1;omega)
  go_in
  go_wp2;go_ret;exact⟨n,G5 _ _⟩
 go_in
 go_wp2;go_loopw[3] (λg wr=>∃k:Nat,k<=ls.length/\g=.int .i64 k/\Below w.heap.size w wr/\Hid (∀j,j<k->ji (ls.getD j M_))) (λg _=>ls.length-(RowKit.intOf g).toNat);exact⟨0,J4 _,rfl,G5 _ _,λj h=>absurd h (y9 _)⟩;obtain⟨k,hk,rfl,c,p⟩:=hrel;by_cases m:k<ls.length
 ·obtain⟨ha,f,v⟩:=Jd C.out m;subst ha;obtain⟨g0,g1,g2,g3⟩:=v k m;have g0:=(c.cell (by exact f)).trans g0;have g1:=(c.cell (by exact f)).trans g1;have g2:=(c.cell (by exact f)).trans g2;have g3:=(c.cell (by exact f)).trans g3;have o:=B.out k;have n:Hid (¬ji (ls.getD k M_)->zn (yg ls) (.returned (.bool false))):=λh=>S_ λd=>h (d.2 k m);have A:Hid (ji (ls.getD k M_)->∀j,j<k+1->ji (ls.getD j M_)):=λh j u=>by
   rcases D8 j k with h1|h1
   ·exact p j h1
   obtain rfl:j=k:=O0;exact h
  generalize ls.getD k M_=x at*
  go_wp2_with fail
  refine(a3L x wr ⟨by have:=o.1;omega,by have:=o.2;omega⟩).mono ?_;rintro e w1⟨⟨r,rfl,hr⟩,y⟩;have q:=J5 c y;cases r
  ·have t:=U0 (n.out λh=>absurd (hr.2 h) Ik);go_wp2;go_ret;exact⟨t,q⟩
  have l:=U0 (A.out (hr.1 rfl));go_wp2;go_roundw;exact⟨k+1,O0,by go_num,q,l⟩;exact Z9
 have l:Hid (zn (yg ls) (.returned (.bool true))):=Yk ⟨O0,λj u=>p.out j O0⟩;go_wp2;go_ret;exact⟨l,c⟩
theorem a1i(a:OA)(cap:Nat)(ls:List L4)(w:World)(hl:ls.length<=1048576)(s:∀i,(ls.getD i M_).le 1048576)(z:S9 w a ls):
 Calls prog 202 #[.slice a ls.length cap] w λe w'=>zn (yg ls) e/\Bw w w':=by
 obtain⟨b,off,hc⟩:=Yg z;have D:=U0 hc;have C:=U0 s;by_cases hbig:15<ls.length
 ·have n:Hid (zn (yg ls) (.returned (.bool false))):=S_ (λh=>by have:=h.1;omega)
  go_in
  go_wp2;go_ret;exact⟨n,G5 _ _⟩
 go_in
 go_wp2;go_loopw[10] (λg wr=>∃k:Nat,k<=ls.length/\g=.int .i64 k/\Below w.heap.size w wr/\Hid (∀j,j<k->ji (ls.getD j M_))) (λg _=>ls.length-(RowKit.intOf g).toNat);exact⟨0,J4 _,rfl,G5 _ _,λj h=>absurd h (y9 _)⟩;obtain⟨k,hk,rfl,c,p⟩:=hrel;by_cases m:k<ls.length
 ·obtain⟨ha,f,v⟩:=Jd D.out m;subst ha;obtain⟨g0,g1,g2,g3⟩:=v k m;have g0:=(c.cell (by exact f)).trans g0;have g1:=(c.cell (by exact f)).trans g1;have g2:=(c.cell (by exact f)).trans g2;have g3:=(c.cell (by exact f)).trans g3;have o:=C.out k;have n:Hid (¬ji (ls.getD k M_)->zn (yg ls) (.returned (.bool false))):=λh=>S_ λd=>h (d.2 k m);have B:Hid (ji (ls.getD k M_)->∀j,j<k+1->ji (ls.getD j M_)):=λh j u=>by
   rcases D8 j k with h1|h1
   ·exact p j h1
   obtain rfl:j=k:=O0;exact h
  generalize ls.getD k M_=x at*
  go_wp2_with fail
  have A:Bw w (wr.alloc (.cells #[.bool x.has,vS x.nm,vI x.cd,vS x.tx] 138)):=c.alloc c.size _;generalize (wr.alloc (.cells #[.bool x.has,vS x.nm,vI x.cd,vS x.tx] 138))=V at*;refine(a5e x V ⟨by have:=o.1;omega,by have:=o.2;omega⟩).mono ?_;rintro e w1⟨⟨r,rfl,hr⟩,y⟩;have q:=J5 A y;cases r
  ·have t:=U0 (n.out λh=>absurd (hr.2 h) Ik);go_wp2;go_ret;exact⟨t,q⟩
  have l:=U0 (B.out (hr.1 rfl));go_wp2;go_roundw;exact⟨k+1,O0,by go_num,q,l⟩;exact Z9
 have l:Hid (zn (yg ls) (.returned (.bool true))):=Yk ⟨O0,λj u=>p.out j O0⟩;go_wp2;go_ret;exact⟨l,c⟩
def Aw(P:Program)(md:Region.Mode)(ops:Array Oper)(Q:Exit->Act->World->Prop)(S:World->Prop)(T:Nat):Nat->Array Bool->Act->World->Prop
 | 0,l,a,w=>Region.ready md ops l=[]/\Q .normal a w
 | n+1,l,a,w=>(Region.ready md ops l=[]->Q .normal a w)/\∀i∈Region.ready md ops l,wpOp P ops Q i (λa' w'=>(i≠T->S w')/\Aw P md ops Q S T n (l.setIfInBounds i true) a' w') a w
section
variable{P:Program}{ops:Array Oper}{Q:Exit->Act->World->Prop}{md:Region.Mode}{S:World->Prop}{T:Nat}
theorem TW(n:Nat):∀(l:Array Bool)(a:Act)(w:World),Aw P md ops Q S T n l a w->wpAny P md ops Q n l a w:=by
 induction n with
 | zero=>exact λ_ _ _ h=>h
 | succ n ih=>exact λ_ _ _ h=>⟨h.1,λi b=>wpOp_mono (λd w' c=>ih _ d w' c.2) (h.2 i b)⟩
def Vs(md:Region.Mode)(ops:Array Oper)(T i:Nat):Bool:=(ops[T]?).any λo=>o.after.any λe=>Region.binds md e&&e.on==i
theorem AY{l:Array Bool}{T i:Nat}(hT:Vs md ops T i=true)(d:i∈Region.ready md ops l):T∉Region.ready md ops l:=λh=>by
 obtain⟨_,o,ho,e⟩:=mem_ready.1 h;unfold Vs at hT;rw[ho]at hT;simp only[Option.any_some,Array.any_eq_true]at hT;obtain⟨k,c,a⟩:=hT;simp only[Ia,Gp]at a;have h1:=e _ (Array.getElem_mem c) a.1;have h0:=(mem_ready.1 d).1;rw[a.2]at h1;rcases D8 i l.size with b|b
 ·simp[b]at h0 h1;rw[h0]at h1;cases h1
 simp[Qp b]at h1
theorem eP{i:Nat}{g:Oper}{v:Value}(s:ops[i]?=some g)(hT:Vs md ops T i=true)(x:∀(j:Nat)(o:Oper) cs b,ops[j]?=some o->o.op≠.select cs b)
 (hQ:∀c a w,Q (.panic c) (a.put g.dst v) w->Q (.panic c) a w) (n:Nat):∀(l:Array Bool)(a:Act)(w:World),
  (∀j f,ops[j]?=some f->j≠i->l.getD j true=false->(∀e∈f.after,Region.binds md e=true->e.on≠i)->g.apart ops f=true)->
  i∈Region.ready md ops l->YieldsIf P ops S g v a->S w->
  Aw P md ops Q S T n (l.setIfInBounds i true) (a.put g.dst v) w->Aw P md ops Q S T (n+1) l a w:=by
 have E:∀(l:Array Bool) j,i∈Region.ready md ops l->j∈Region.ready md ops l->j≠T:=λl j h1 h2 e=>AY hT h1 (e▸h2)
 induction n with
 | zero=>
  refine λl a w _ hr q p H=>⟨λh=>absurd (h▸hr) Ho,λj m=>?_⟩;by_cases d:j=i
  ·subst d;exact q.wpOp s p ⟨λ_=>p,H⟩
  exact absurd (H.1▸ready_mono m d) Ho
 | succ n ih=>
  refine λl a w A hr q p H=>⟨λh=>absurd (h▸hr) Ho,λj m=>?_⟩;by_cases d:j=i
  ·subst d;exact q.wpOp s p ⟨λ_=>p,H⟩
  have L:=E l j hr m;obtain⟨u,f,r,R⟩:=mem_ready.1 m;have F:∀e∈f.after,Region.binds md e=true->e.on≠i:=λe he O N=>by
   have h1:=R e he O;have h0:=(mem_ready.1 hr).1;rw[N]at h1;rcases D8 i l.size with t|t
   ·simp[t]at h0 h1;rw[h0]at h1;cases h1
   simp[Qp t]at h1
  refine wpOp_mono (λU w' h=>?_) (wpOp_putIf r (A j f r d u F) (λcs b=>x i g cs b s) (λcs b=>x j f cs b r) hQ q (H.2 j (ready_mono m d)));obtain⟨B,y,C⟩:=h;refine⟨y,ih _ U w' (λk ok K J D I=>A k ok K J ?_ I) (ready_mono hr (Ym d)) B (y L) ?_⟩
  ·by_cases z:j=k
   ·exact z▸u
   rwa[getD_set_ne true z]at D
  rw[Array.setIfInBounds_comm _ _ d];exact C
theorem TG{i:Nat}(hT:Vs md ops T i=true){b:Oper}{v:Value}{n:Nat}{l:Array Bool}{a:Act}{w:World}(d:ops[i]?=some b)
 (f:Region.noSelect ops=true) (hf:Region.free md ops l i=true) (hr:(Region.ready md ops l).contains i=true)
 (hQ:∀c a w,Q (.panic c) (a.put b.dst v) w->Q (.panic c) a w) (e:YieldsIf P ops S b v a) (g:S w)
 (h:Aw P md ops Q S T n (l.setIfInBounds i true) (a.put b.dst v) w):Aw P md ops Q S T (n+1) l a w:=
 eP d hT (Region.noSelect_spec f) hQ n l a w (Region.free_spec d hf) (by simpa using hr) e g h
def y_(P:Program)(md:Region.Mode)(ops:Array Oper)(Q:Exit->Act->World->Prop)(S:World->Prop)(T n:Nat)(l:Array Bool)(a:Act)(w:World)(rs:List Nat):Prop:=
 ∀i∈rs,wpOp P ops Q i (λa' w'=>(i≠T->S w')/\Aw P md ops Q S T n (l.setIfInBounds i true) a' w') a w
theorem y_.nil{n:Nat}{l:Array Bool}{a:Act}{w:World}:y_ P md ops Q S T n l a w []:=λ_ h=>absurd h Ho
theorem y_.cons{n:Nat}{l:Array Bool}{a:Act}{w:World}{i:Nat}(hne:i≠T){o:Oper}{rs:List Nat}(ho:ops[i]?=some o)
 (h:∀b:Act->World->Prop,Shut (∀a w,S w->(S w->Aw P md ops Q S T n (l.setIfInBounds i true) a w)->b a w)->if Region.wanted o (yielded ops a.tmps)=true then Oper.wp P o a w b Q else b (a.put o.dst undef) w)
 (e:y_ P md ops Q S T n l a w rs):y_ P md ops Q S T n l a w (i::rs):=λj c=>by
 rcases Xe.1 c with rfl|c
 ·exact wpOp_step ho (λb g=>h b (λa w d f=>g a w ⟨λ_=>d,f d⟩))
 exact e j c
theorem y_.last{n:Nat}{l:Array Bool}{a:Act}{w:World}{o:Oper}(ho:ops[T]?=some o)
 (h:∀b:Act->World->Prop,Shut (∀a w,Aw P md ops Q S T n (l.setIfInBounds T true) a w->b a w)->if Region.wanted o (yielded ops a.tmps)=true then Oper.wp P o a w b Q else b (a.put o.dst undef) w):y_ P md ops Q S T n l a w [T]:=λj c=>by
 obtain rfl:=Dk.1 c;exact wpOp_step ho (λb f=>h b (λa w d=>f a w ⟨λe=>absurd rfl e,d⟩))
theorem Vq{rs:List Nat}{n:Nat}{l:Array Bool}{a:Act}{w:World}(hr:Region.ready md ops l=rs)(b:rs≠[])(h:y_ P md ops Q S T n l a w rs):Aw P md ops Q S T (n+1) l a w:=
 ⟨λh0=>absurd (hr▸h0) b,hr▸h⟩
theorem ig{l:Array Bool}{a:Act}{w:World}(hr:Region.ready md ops l=[])(h:Q .normal a w)(n:Nat):Aw P md ops Q S T n l a w:=by
 cases n with
 | zero=>exact⟨hr,h⟩
 | succ n=>exact⟨λ_=>h,by rw[hr];simp⟩
theorem Qd{b:Nat}{a:Act}{w:World}(T:Nat)(hm:P.follows .mixedOrders=true)(c:S w.drew)
 (h:S w.drew->Aw P .any ops Q S T ops.size (Array.replicate ops.size false) a w.drew):(Code.region b ops true).wp P Q a w:=
 wp_region_any hm (TW _ _ _ _ (h c))
theorem wrl{V:World}{c:Nat}{a:Act}{w:World}(T:Nat)(C:Go.RowKit.Hid (∀u,Bw V u->S u))(b:Bw V w.drew)(hm:P.follows .mixedOrders=true)(h:S w.drew->Aw P .any ops Q S T ops.size (Array.replicate ops.size false) a w.drew):(Code.region c ops true).wp P Q a w:=Qd T hm (C.out _ b) h
theorem lk{i:Nat}{b:Oper}{v:Value}{n:Nat}{l:Array Bool}{a:Act}{w:World}(e:ops[i]?=some b)(d:(Vs md ops T i&&Region.noSelect ops&&Region.free md ops l i&&(Region.ready md ops l).contains i)=true)(hw:Region.wanted b (yielded ops a.tmps)=true)(hv:∀u,S u->(execOp a.eval b).run P u=.ok (.value v) u)(f:S w)(h:Aw P md ops Q S T n (l.setIfInBounds i true) (a.put b.dst v) w)(hQ:∀c a w,Q (.panic c) (a.put b.dst v) w->Q (.panic c) a w:=by exact λ_ _ _ h=>h):Aw P md ops Q S T (n+1) l a w:=by
 simp only[Ia]at d;exact TG d.1.1.1 e d.1.1.2 d.1.2 d.2 hQ (.inl ⟨hw,hv⟩) f h
theorem lq{v:Value}{n:Nat}{l:Array Bool}{a:Act}{w:World}{d:Option Nat}{op:Op}{ty:TypeId}{p:String}{af:Array Edge}{g:Option (Nat×Bool)}(i:Nat)(f:S w)(h:Aw P md ops Q S T n (l.setIfInBounds i true) (a.put d v) w)(b:ops[i]?=some ⟨d,op,ty,p,af,g⟩:=by exact rfl)(e:(Vs md ops T i&&Region.noSelect ops&&Region.free md ops l i&&(Region.ready md ops l).contains i)=true:=by kernel_rfl)(hw:Region.wanted ⟨d,op,ty,p,af,g⟩ (yielded ops a.tmps)=true:=by exact rfl)(hv:∀u,S u->(execOp a.eval ⟨d,op,ty,p,af,g⟩).run P u=.ok (.value v) u:=by intro wq hSw;(try dsimp only at hSw);go_simp;try with_reducible rfl)(hQ:∀c a w,Q (.panic c) (a.put d v) w->Q (.panic c) a w:=by first|exact λ_ _ _ h=>h|exact λ_ _ _ h=>hQ _ _ _ _ _ h):Aw P md ops Q S T (n+1) l a w:=lk b e hw hv f h hQ
theorem lr{i:Nat}{o:Oper}{n:Nat}{l:Array Bool}{a:Act}{w:World}(ho:ops[i]?=some o)(c:i≠T)(hr:Region.ready md ops l=[i])(h:∀b:Act->World->Prop,Shut (∀a w,S w->(S w->Aw P md ops Q S T n (l.setIfInBounds i true) a w)->b a w)->if Region.wanted o (yielded ops a.tmps)=true then Oper.wp P o a w b Q else b (a.put o.dst undef) w):Aw P md ops Q S T (n+1) l a w:=Vq hr E5 (y_.cons c ho h y_.nil)
theorem lz{o:Oper}{n:Nat}{l:Array Bool}{a:Act}{w:World}(ho:ops[T]?=some o)(hr:Region.ready md ops l=[T])(h:∀b:Act->World->Prop,Shut (∀a w,Aw P md ops Q S T n (l.setIfInBounds T true) a w->b a w)->if Region.wanted o (yielded ops a.tmps)=true then Oper.wp P o a w b Q else b (a.put o.dst undef) w):Aw P md ops Q S T (n+1) l a w:=Vq hr E5 (y_.last ho h)
theorem a0Y{o:Oper}{a:Act}{w w':World}{v:Value}{K:Act->World->Prop}{E:Prop}(b:o.guard=none)(hr:(execOp a.eval o).run P w=.ok (.value v) w')(c:K (a.put o.dst v) w'):if Region.wanted o (yielded ops a.tmps)=true then Oper.wp P o a w K Q else E:=by
 rw[L8 (by simp[Region.wanted,b])];unfold Oper.wp;rw[hr];exact c
theorem Gn{o:Oper}{a:Act}{w w':World}{K:Act->World->Prop}{E:Prop}(b:o.guard=none)(hr:(execOp a.eval o).run P w=.ok .skip w')(c:K (a.put o.dst undef) w'):if Region.wanted o (yielded ops a.tmps)=true then Oper.wp P o a w K Q else E:=by
 rw[L8 (by simp[Region.wanted,b])];unfold Oper.wp;rw[hr];exact c
theorem Vb{rest:List Oper}{o:Oper}{a:Act}{w w':World}{v:Value}(b:o.guard=none)(hr:(execOp a.eval o).run P w=.ok (.value v) w')(h:wpList P ops Q rest (a.put o.dst v) w'):wpList P ops Q (o::rest) a w:=by
 refine Qv b λK c=>?_;unfold Oper.wp;rw[hr];exact c _ _ h
theorem PE{rest:List Oper}{o:Oper}{a:Act}{w w':World}(b:o.guard=none)(hr:(execOp a.eval o).run P w=.ok .skip w')(h:wpList P ops Q rest (a.put o.dst undef) w'):wpList P ops Q (o::rest) a w:=by
 refine Qv b λK c=>?_;unfold Oper.wp;rw[hr];exact c _ _ h
end
def Cl(w:World)(b:Nat)(t:TypeId)(xs:List Value):Prop:=w.heap[b]?=some (.cells xs.toArray t (0,0))
structure Jr(B:Nat)(w w':World):Prop where
 os:w'.os=w.os
 tape:w'.tape=w.tape
 output:w'.output=w.output
 size:w'.heap.size=w.heap.size
 block:∀k,k≠B->w'.heap[k]?=w.heap[k]?
theorem Cl.lt{w:World}{b:Nat}{t:TypeId}{xs:List Value}(h:Cl w b t xs):b<w.heap.size:=(Eb.1 h).1
theorem Cl.cell{w:World}{b:Nat}{t:TypeId}{xs:List Value}(h:Cl w b t xs)(j:Nat):w.cell? ⟨b,j,none⟩=xs[j]?:=by
 rw[Lib.cell_of_heap h j];simp
theorem Cl.opn{w:World}{b:Nat}{t:TypeId}{xs:List Value}(h:Cl w b t xs)(j:Nat):w.frozen? ⟨b,j,none⟩=false:=Lib.frozen_of_heap h j
theorem Cl.blk{w:World}{b:Nat}{t:TypeId}{xs:List Value}(h:Cl w b t xs):U6 w b xs:=λj v e=>(h.cell j).trans e
theorem Cl.on{w w':World}{b B:Nat}{t:TypeId}{xs:List Value}(h:Cl w b t xs)(ho:Jr B w w')(a:b≠B):Cl w' b t xs:=(ho.block b a).trans h
theorem Cl.below{w w':World}{b N:Nat}{t:TypeId}{xs:List Value}(h:Cl w b t xs)(a:Below N w w')(c:b<N):Cl w' b t xs:=(a.block b c).trans h
theorem Cl.set{w:World}{b:Nat}{t:TypeId}{xs:List Value}(h:Cl w b t xs)(j:Nat)(v:Value):Cl (w.setCell ⟨b,j,none⟩ v) b t (xs.set j v):=by
 have:=heap_setCell_same w b j _ t v h;unfold Cl;rw[this,MQ]
theorem O_(w:World)(b j:Nat)(v:Value):Jr b w (w.setCell ⟨b,j,none⟩ v):=⟨rfl,rfl,rfl,E5,λk a=>XF _ _ _ _ a⟩
theorem Jr.below{B N:Nat}{w w':World}(h:Jr B w w')(hN:N<=B):Below N w w':=⟨h.os,h.tape,h.output,uh h.size.symm,λk hk=>h.block k O0⟩
theorem X4(w:World)(xs:List Value)(t:TypeId):Cl (w.alloc (.cells xs.toArray t)) w.heap.size t xs:=heap_alloc_new w _
theorem U8{w:World}{b:Nat}{t:TypeId}{xs:List Value}(h:Cl w b t xs)(o:Obj):Cl (w.alloc o) b t xs:=(Lib.alloc_old w o b h.lt).trans h
theorem Ti{w:World}{b:Nat}{t:TypeId}{xs:List Value}(h:Cl w b t xs):∀j u,xs[j]?=some u->w.cell? ((⟨b,0,none⟩:Addr).add j)=some u:=λj u e=>by
 have ha:(aA b 0).add j=(aA b j):=by unfold Addr.add;split<;>simp_all
 rw[ha];exact(h.cell j).trans e
theorem Cl.fil{w:World}{B:Nat}{t:TypeId}{xs:List Value}(vs:List Value):∀(j:Nat),Cl w B t xs->∃ys,Cl (fill w B j vs) B t ys/\ys.length=xs.length/\∀i,ys[i]?=if j<=i/\i<j+vs.length/\i<xs.length then vs[i-j]? else xs[i]?:=by
 induction vs generalizing w xs with
 | nil=>exact λj h=>⟨xs,h,rfl,λi=>by rw[Y7];simp;omega⟩
 | cons v vs ih=>
  intro j h;obtain⟨ys,h1,h2,b⟩:=ih (j+1) (h.set j v);refine⟨ys,h1,by simpa using h2,λi=>?_⟩;rw[b i];simp only[qj,u_];by_cases a:i=j
  ·subst a;rw[Y7 O0];by_cases hl:i<xs.length
   ·rw[L8 ⟨O0,O0,hl⟩,Po hl];simp
   rw[Y7 O0];simp[Zb (show(xs.set i v).length<=i by simp;omega),Zb (show xs.length<=i by omega)]
  by_cases hc:j<=i/\i<j+(vs.length+1)/\i<xs.length
  ·rw[L8 hc,L8 O0];obtain⟨d,rfl⟩:∃d,i=j+1+d:=⟨i-(j+1),O0⟩;have e1:j+1+d-j=d+1:=O0;have c:j+1+d-(j+1)=d:=O0;rw[e1,c];simp
  rw[Y7 hc,Y7 O0,H_ O0]
theorem rF(B:Nat)(vs:List Value):∀(w:World)(j:Nat),Jr B w (fill w B j vs):=by
 induction vs with
 | nil=>exact λw j=>⟨rfl,rfl,rfl,rfl,λ_ _=>rfl⟩
 | cons v vs ih=>
  intro w j;have h1:=O_ w B j v;have h2:=ih (w.setCell (aA B j) v) (j+1);exact⟨h2.os.trans h1.os,h2.tape.trans h1.tape,h2.output.trans h1.output,h2.size.trans h1.size,λk a=>(h2.block k a).trans (h1.block k a)⟩
def Nr(xs:List Value)(j:Nat)(vs:List Value):List Value:=xs.take j++vs++xs.drop (j+vs.length)
theorem Cl.tZ{w:World}{B:Nat}{t:TypeId}{xs vs:List Value}{j:Nat}(h:Cl w B t xs)(hl:j+vs.length<=xs.length):Cl (fill w B j vs) B t (Nr xs j vs):=by
 obtain⟨ys,h1,h2,c⟩:=h.fil vs j;have:ys=Nr xs j vs:=by
  apply List.ext_getElem?;intro i;rw[c i];unfold Nr;by_cases b:i<j
  ·rw[Y7 O0,Zr,G_ Q8,jA b]
  by_cases a:i<j+vs.length
  ·rw[L8 ⟨O0,a,O0⟩,Zr,Ue Q8,G_ Q8]
   congr 1
   simp;omega
  rw[Y7 O0,Ue Q8,fF]
  congr 1
  simp;omega
 rw[<- this];exact h1
section
variable{P:Program}{ops:Array Oper}{Q:Exit->Act->World->Prop}
theorem GI{o:Oper}{a:Act}{w:World}(ty:TypeId)(x y:Operand)(ho:o.op=.store ty x y){B j:Nat}{t:TypeId}{xs vs:List Value}(hx:a.eval x=.pointer (some ⟨B,j,none⟩))(b:a.eval y=.agg vs.toArray)(hB:Cl w B t xs)(hl:j+vs.length<=xs.length)(h1:∀v∈vs,v.oneCell'=true)(c:(P.info? ty).map (·.size)=some vs.length):
 (execOp a.eval o).run P w=.ok .skip (fill w B j vs):=by
 unfold execOp;simp only[ho,hx,b,Instr.storeAt,Instr.sureAddr,Sem.run_bind,Zp,Am,Nh w B j ty vs (λi h=>by rw[hB.cell];simp;omega) (λj=>hB.opn j) h1 c]
theorem t_{o:Oper}{a:Act}{w:World}{K:Act->World->Prop}{E:Prop}(d:o.guard=none)(ty:TypeId)(x y:Operand)(ho:o.op=.store ty x y){B j:Nat}{t:TypeId}{xs vs:List Value}(hx:a.eval x=.pointer (some ⟨B,j,none⟩))(b:a.eval y=.agg vs.toArray)(hB:Cl w B t xs)(hl:j+vs.length<=xs.length)(h1:∀v∈vs,v.oneCell'=true)(c:(P.info? ty).map (·.size)=some vs.length)
 (e:∀w',Cl w' B t (Nr xs j vs)->Jr B w w'->K (a.put o.dst undef) w'):if Region.wanted o (yielded ops a.tmps)=true then Oper.wp P o a w K Q else E:=
 Gn d (GI ty x y ho hx b hB hl h1 c) (e _ (hB.tZ hl) (rF _ _ _ _))
theorem I7{rest:List Oper}{o:Oper}{a:Act}{w:World}(d:o.guard=none)(ty:TypeId)(x y:Operand)(ho:o.op=.store ty x y){B j:Nat}{t:TypeId}{xs vs:List Value}(hx:a.eval x=.pointer (some ⟨B,j,none⟩))(b:a.eval y=.agg vs.toArray)(hB:Cl w B t xs)(hl:j+vs.length<=xs.length)(h1:∀v∈vs,v.oneCell'=true)(c:(P.info? ty).map (·.size)=some vs.length)
 (e:∀w',Cl w' B t (Nr xs j vs)->Jr B w w'->wpList P ops Q rest (a.put o.dst undef) w'):wpList P ops Q (o::rest) a w:=
 PE d (GI ty x y ho hx b hB hl h1 c) (e _ (hB.tZ hl) (rF _ _ _ _))
theorem d_{o:Oper}{a:Act}{w:World}(ty:TypeId)(x:Operand)(ho:o.op=.load ty x){B j:Nat}{cs:List Value}{d:TypeDesc}(hx:a.eval x=.pointer (some ⟨B,j,none⟩))(hc:∀i v,cs[i]?=some v->w.cell? ⟨B,j+i,none⟩=some v)(c:P.underlying ty=some d)(hd:(match d with | .struct _ | .array _ _=>true|_=>false)=true)(b:(P.info? ty).map (·.size)=some cs.length):
 (execOp a.eval o).run P w=.ok (.value (.agg cs.toArray)) w:=by
 have hl:(loadCells (aA B j) cs.length).run P w=.ok cs.toArray w:=
  run_loadCells_list (P:=P) w (aA B j) cs (λi v hv=>by rw[Bl];exact hc i v hv)
 have hr:(loadVar ty (aA B j)).run P w=.ok (.agg cs.toArray) w:=by
  cases hq:P.info? ty with
  | none=>simp[hq]at b
  | some i=>
   have e:i.size=cs.length:=by simpa[hq]using b
   have f:(isAgg ty).run P w=.ok true w:=by
    unfold isAgg;rw[Sem.run_bind,Ws c w];cases d<;>simp_all
   simp[loadVar,f,sizeOf,typeInfo,hq,e,hl]
 unfold execOp;simp only[ho,hx,Instr.loadAt,Instr.sureAddr,Sem.run_bind,Zp,Am,hr]
def Inf(P:Program)(e:TypeId)(size:Nat):Prop:=∃i z,P.info? e=some i/\i.zero=some z/\i.size=size/\z.cells.size=size/\i.bytes<=1000
theorem Zc{e:TypeId}{size:Nat}(h:((P.info? e).map λi=>(i.zero.map λz=>z.cells.size,i.size,decide (i.bytes<=1000)))=some (some size,size,true)):Inf P e size:=by
 cases hq:P.info? e with
 | none=>rw[hq]at h;cases h
 | some i=>
  rw[hq]at h;simp only[Iw,iw,KJ,rf]at h;obtain⟨h1,h2,c⟩:=h;obtain⟨z,b,a⟩:=WB.1 h1;exact⟨i,z,hq,b,h2,a,c⟩
def Src(w:World)(sv:Value)(size m:Nat)(news:List Value):Prop:=((∃c,sv=.slice none 0 c)/\m=0/\news=[])\/∃ad c,sv=.slice (some ad) m c/\news.length=m*size/\∀j u,news[j]?=some u->w.cell? (ad.add j)=some u
theorem vG(w:World)(base:Nat)(t ty e:TypeId)(size:Nat)(ht:P.underlying t=some (.slice e))(r:Inf P e size)(j:0<size)(v:Value)(n:Nat)(xs:List Value)(b:w.ownsRow base e size v n xs)(f:Value)(m:Nat)(a:List Value)(l:Src w f size m a)(h1:∀u∈a,u.oneCell'=true)(q:n+m<=2000000)(x:base<=w.heap.size):
 ∃v' w',(Builtin.append_ #[t,t] ty #[v,f]).run P w=.ok v' w'/\w'.ownsRow base e size v' (n+m) (xs++a)/\w.grownBy w' v.ownBlock/\(v'.ownBlock=v.ownBlock\/v'.ownBlock=some w.heap.size):=by
 obtain⟨i,z,d,hz,k,h,s⟩:=r;rcases l with⟨⟨c,rfl⟩,rfl,rfl⟩|⟨B,c,rfl,hl,o⟩
 ·refine⟨v,w,?_,by simpa using b,⟨rfl,rfl,rfl,J8 _,λ_ _ _=>rfl⟩,.inl rfl⟩;rcases b.2 with⟨rfl,rfl⟩|⟨g,cap,cur,rfl,hbg,hg,p,hcm,hcs,htake⟩
  ·simp[Builtin.append_,Ws ht,sizeOf,typeInfo,d,Builtin.lenOf,Builtin.firstCells]
  simp[Builtin.append_,Ws ht,sizeOf,typeInfo,d,Builtin.lenOf,Builtin.firstCells,loadCells,p,storeCells]
 obtain⟨v',w',hr,h2,A,h4,y⟩:=run_append_own_at (P:=P) w base t ty e i z size i.bytes ht d hz k rfl h j v n xs b B m c a hl o h1 (by simp only[maxLen];omega) (I8 (Nat.mul_le_mul q s) Z5) x;exact⟨v',w',hr,h2,A,y⟩
theorem Ea{o:Oper}{a:Act}{w:World}{K:Act->World->Prop}{E:Prop}(l:o.guard=none)(s x:Operand)(t:TypeId)(ho:o.op=.call { callee:=.builtin .append,args:=#[s,x],argTypes:=#[t,t] })
 (base:Nat) (e:TypeId) (size:Nat) (ht:P.underlying t=some (.slice e)) (k:Inf P e size) (d:0<size) (v:Value) (n:Nat) (xs:List Value) (g:a.eval s=v) (i:w.ownsRow base e size v n xs) (c:Value) (m:Nat) (b:List Value) (hx:a.eval x=c) (f:Src w c size m b) (h1:∀u∈b,u.oneCell'=true) (j:n+m<=2000000) (p:base<=w.heap.size)
 (h:∀v' w',w'.ownsRow base e size v' (n+m) (xs++b)->w.grownBy w' v.ownBlock->(v'.ownBlock=v.ownBlock\/v'.ownBlock=some w.heap.size)->K (a.put o.dst v') w'):if Region.wanted o (yielded ops a.tmps)=true then Oper.wp P o a w K Q else E:=by
 obtain⟨v',w',hr,h2,r,q⟩:=vG w base t o.type e size ht k d v n xs i c m b f h1 j p;refine a0Y l (v:=v') (w':=w') ?_ (h v' w' h2 r q);unfold execOp;simp only[ho,resolve,invoke,builtin,Sem.run_bind,Zp,Am,SI,Fp,VF,g,hx,hr]
theorem Vd{rest:List Oper}{o:Oper}{a:Act}{w:World}(l:o.guard=none)(s x:Operand)(t:TypeId)(ho:o.op=.call { callee:=.builtin .append,args:=#[s,x],argTypes:=#[t,t] })
 (base:Nat) (e:TypeId) (size:Nat) (ht:P.underlying t=some (.slice e)) (k:Inf P e size) (d:0<size) (v:Value) (n:Nat) (xs:List Value) (g:a.eval s=v) (i:w.ownsRow base e size v n xs) (c:Value) (m:Nat) (b:List Value) (hx:a.eval x=c) (f:Src w c size m b) (h1:∀u∈b,u.oneCell'=true) (j:n+m<=2000000) (p:base<=w.heap.size)
 (h:∀v' w',w'.ownsRow base e size v' (n+m) (xs++b)->w.grownBy w' v.ownBlock->(v'.ownBlock=v.ownBlock\/v'.ownBlock=some w.heap.size)->wpList P ops Q rest (a.put o.dst v') w'):wpList P ops Q (o::rest) a w:=by
 obtain⟨v',w',hr,h2,r,q⟩:=vG w base t o.type e size ht k d v n xs i c m b f h1 j p;refine Vb l (v:=v') (w':=w') ?_ (h v' w' h2 r q);unfold execOp;simp only[ho,resolve,invoke,builtin,Sem.run_bind,Zp,Am,SI,Fp,VF,g,hx,hr]
end
section
variable{P:Program} (w:World)
end
section
variable{P:Program}{ops:Array Oper}{Q:Exit->Act->World->Prop}
end
end Go.Proofs.YtkccjgajimjjdaaGreatDoor
namespace Go.Proofs.YtkccjgajimjjdaaGreatDoor
open Proofs.Tryz Go.RowKit
section
variable{P:Program}{ops:Array Oper}{Q:Exit->Act->World->Prop}{md:Region.Mode}{S:World->Prop}{T:Nat}
end
section
variable{P:Program}{ops:Array Oper}{Q:Exit->Act->World->Prop}{md:Region.Mode}{S:World->Prop}{T n:Nat}{v:Value}{l:Array Bool}{a a1:Act}{w:World}{d:Option Nat}{op:Op}{ty:TypeId}{p:String}{af:Array Edge}{g:Option (Nat×Bool)}
theorem AL{i:Nat}(h:Aw P md ops Q S T n (l.setIfInBounds i true) a1 w)(j:S w:=by assumption)(hr:nx l.toList 0 ops.toList=some i:=by exact rfl)(f:ops[i]?=some ⟨d,op,ty,p,af,g⟩:=by exact rfl)(b:(Vs md ops T i&&Region.noSelect ops&&Region.free md ops l i&&(Region.ready md ops l).contains i)=true:=by kernel_rfl)(hw:(Region.wanted ⟨d,op,ty,p,af,g⟩ (yielded ops a.tmps)=true/\∀u,S u->(execOp a.eval ⟨d,op,ty,p,af,g⟩).run P u=.ok (.value v) u)\/(Region.wanted ⟨d,op,ty,p,af,g⟩ (yielded ops a.tmps)=false/\v=undef):=by first|exact .inr ⟨rfl,rfl⟩|(refine .inl ⟨rfl,?_⟩;intro wq hSw;(try dsimp only at hSw);go_simp;try with_reducible rfl))(hQ:∀c a w,Q (.panic c) (a.put d v) w->Q (.panic c) a w:=by first|exact λ_ _ _ h=>h|exact λ_ _ _ h=>hQ _ _ _ _ _ h)(k:a.put d v=a1:=by first|(simp only[qq];rfl)|rfl):Aw P md ops Q S T (n+1) l a w:=by
 simp only[Ia]at b;exact TG b.1.1.1 f b.1.1.2 b.1.2 b.2 hQ (hw.imp id λ⟨h,e⟩=>⟨h,e⟩) j (k▸h)
theorem uy(i:Nat)(h:∀b:Act->World->Prop,Shut (∀a w,S w->(S w->Aw P md ops Q S T n (l.setIfInBounds i true) a w)->b a w)->if Region.wanted ⟨d,op,ty,p,af,g⟩ (yielded ops a.tmps)=true then Oper.wp P ⟨d,op,ty,p,af,g⟩ a w b Q else b (a.put d undef) w)(ho:ops[i]?=some ⟨d,op,ty,p,af,g⟩:=by exact rfl)(c:i≠T:=by decide)(hr:Region.ready md ops l=[i]:=by kernel_rfl):Aw P md ops Q S T (n+1) l a w:=lr ho c hr h
theorem iZ(h:∀b:Act->World->Prop,Shut (∀a w,Aw P md ops Q S T n (l.setIfInBounds T true) a w->b a w)->if Region.wanted ⟨d,op,ty,p,af,g⟩ (yielded ops a.tmps)=true then Oper.wp P ⟨d,op,ty,p,af,g⟩ a w b Q else b (a.put d undef) w)(ho:ops[T]?=some ⟨d,op,ty,p,af,g⟩:=by exact rfl)(hr:Region.ready md ops l=[T]:=by kernel_rfl):Aw P md ops Q S T (n+1) l a w:=lz ho hr h
