import Derived.Test.YtbgdfcmeheaiiaaGreatDoorEZA
import Derived.Test.YtbgdfcmeheaiiaaGreatDoorSI
import Derived.Maps.AppendAt
import Derived.Laws.OwnMore
set_option linter.unusedVariables false
set_option linter.unusedSimpArgs false
set_option maxRecDepth 100000
set_option maxHeartbeats 8000000
namespace Go.Proofs.YtbgdfcmeheaiiaaGreatDoor
open Proofs.Tryz Go.RowKit
def Oh(x:L4):Prop:=Y5 x.nm.data.toList=true/\((x.has=true/\((x.cd=0/\x.tx=⟨#[]⟩)\/(x.cd=4/\x.tx=x.nm)))\/(x.has=false/\vr x.cd x.tx.data.toList=true))
def Ia(P:Prop)(e:Ending):Prop:=∃r,e=.returned (.bool r)/\(r=true↔P)
theorem Z5{P:Prop}(h:¬P):Ia P (.returned (.bool false)):=⟨false,rfl,⟨λh=>absurd h Jh,λk=>absurd k h⟩⟩
theorem Jf{P:Prop}(h:P):Ia P (.returned (.bool true)):=⟨true,rfl,⟨λ_=>h,λ_=>rfl⟩⟩
theorem Td(x y:BY):x.toList=y.toList↔x=y:=⟨λh=>by
 rw[ByteArray.toList_eq,ByteArray.toList_eq]at h;exact mg (Xk.1 h),λh=>by rw[h]⟩
theorem qZ(x:BY):x.toList=[]↔x=⟨#[]⟩:=by
 rw[ByteArray.toList_eq];exact⟨λh=>mg (Xk.1 h),λh=>by rw[h]⟩
theorem OD{x:L4}(h:Y5 x.nm.data.toList=false):¬Oh x:=λk=>absurd (k.1.symm.trans h) J6
theorem NT{x:L4}(b:Y5 x.nm.data.toList=true)(a:x.has=false):Oh x↔vr x.cd x.tx.data.toList=true:=by
 constructor
 ·rintro⟨_,⟨h,_⟩|⟨_,h⟩⟩
  ·rw[a]at h;cases h
  exact h
 exact λh=>⟨b,.inr ⟨a,h⟩⟩
theorem FT{x:L4}(b:Y5 x.nm.data.toList=true)(a:x.has=true):Oh x↔((x.cd=0/\x.tx.toList=[])\/(x.cd=4/\x.tx.toList=x.nm.toList)):=by
 rw[qZ,Td];constructor
 ·rintro⟨_,⟨_,h⟩|⟨h,_⟩⟩
  ·exact h
  rw[a]at h;cases h
 exact λh=>⟨b,.inl ⟨a,h⟩⟩
theorem a3y(x:L4)(w:World)(d:x.le 1048600):
 Calls prog 158 #[.agg #[.bool x.has,.string x.nm,.int .i64 x.cd,.string x.tx]] w λe w'=>Ia (Oh x) e/\Bw w w':=by
 obtain⟨s1,s2⟩:=d;have a:∀o,Bw w (w.alloc o):=λo=>P6;cases hn:Y5 x.nm.data.toList
 ·have i:=U0 (Z5 (OD hn))
  go_in
  go_wp2_with fail
  refine(EM x.nm _ O0).mono ?_;rintro e c⟨rfl,hw⟩;obtain rfl:=hw.symm;rw[hn];go_wp2;go_ret;exact⟨i.out,a _⟩
 cases hh:x.has
 ·have b:=U0 (NT hn hh)
  go_in
  go_wp2_with fail
  refine(EM x.nm _ O0).mono ?_;rintro e c⟨rfl,hw⟩;obtain rfl:=hw.symm;rw[hn]
  go_wp2_with fail
  refine(c94 x.cd x.tx _ O0).mono ?_;rintro e w2⟨rfl,f⟩;have g:=(a _).trans (f.mono O4);go_wp2;go_ret;exact⟨⟨_,rfl,b.out.symm⟩,g⟩
 have b:=U0 (FT hn hh)
 skip
 all_goals
  go_in
  go_wp2_with fail
  refine(EM x.nm _ O0).mono ?_;rintro e c⟨rfl,hw⟩;obtain rfl:=hw.symm;rw[hn];go_wp2
  all_goals go_ret
  all_goals first
   | exact⟨Jf (b.out.2 (by simp[*])),a _⟩
   | exact⟨Z5 (λh=>by have:=b.out.1 h;simp[*]at this),a _⟩
   | exact⟨Jf (b.out.2 (by simp[*])),(a _).alloc O4 _⟩
   | exact⟨Z5 (λh=>by have:=b.out.1 h;simp[*]at this),(a _).alloc O4 _⟩
theorem a3u(x:L4)(w:World)(f:x.le 1048600):
 Calls prog 253 #[.agg #[.bool x.has,.string x.nm,.int .i64 x.cd,.string x.tx]] w λe w'=>Ia (Oh x) e/\Bw w w':=by
 obtain⟨s1,s2⟩:=f;have a:∀o,Bw w (w.alloc o):=λo=>P6;cases hh:x.has
 ·cases hn:Y5 x.nm.data.toList
  ·have d:=U0 (Z5 (OD hn))
   go_in
   go_wp2_with fail
   refine(c124 x.nm _ O0).mono ?_;rintro e c⟨rfl,hw⟩;obtain rfl:=hw.symm;rw[hn];go_wp2;go_ret;exact⟨d.out,a _⟩
  have b:=U0 (NT hn hh)
  go_in
  go_wp2_with fail
  refine(c124 x.nm _ O0).mono ?_;rintro e c⟨rfl,hw⟩;obtain rfl:=hw.symm;rw[hn]
  go_wp2_with fail
  refine(wO x.cd x.tx _ O0).mono ?_;rintro e w2⟨rfl,g⟩;have i:=(a _).trans (g.mono O4);go_wp2;go_ret;exact⟨⟨_,rfl,b.out.symm⟩,i⟩
 cases hn:Y5 x.nm.data.toList
 ·have d:=U0 (Z5 (OD hn))
  go_in
  go_wp2_with fail
  refine(c124 x.nm _ O0).mono ?_;rintro e c⟨rfl,hw⟩;obtain rfl:=hw.symm;rw[hn];go_wp2;go_ret;exact⟨d.out,(a _).alloc O4 _⟩
 have b:=U0 (FT hn hh)
 skip
 all_goals
  go_in
  go_wp2_with fail
  refine(c124 x.nm _ O0).mono ?_;rintro e c⟨rfl,hw⟩;obtain rfl:=hw.symm;rw[hn];go_wp2
  all_goals go_ret
  all_goals first
   | exact⟨Jf (b.out.2 (by simp[*])),(a _).alloc O4 _⟩
   | exact⟨Z5 (λh=>by have:=b.out.1 h;simp[*]at this),(a _).alloc O4 _⟩
   | exact⟨Jf (b.out.2 (by simp[*])),((a _).alloc O4 _).alloc X7 _⟩
   | exact⟨Z5 (λh=>by have:=b.out.1 h;simp[*]at this),((a _).alloc O4 _).alloc X7 _⟩
def Ee(ls:List L4):Prop:=ls.length<=15/\∀i,i<ls.length->Oh (ls.getD i l_)
theorem c93(a:OA)(A:Nat)(ls:List L4)(w:World)(hl:ls.length<=1048576)(s:∀i,(ls.getD i l_).le 1048576)(z:X6 w a ls):
 Calls prog 93 #[.slice a ls.length A] w λe w'=>Ia (Ee ls) e/\Bw w w':=by
 obtain⟨b,off,hc⟩:=Ie z;have D:=U0 hc;have C:=U0 s;by_cases hbig:15<ls.length
 ·have n:Hid (Ia (Ee ls) (.returned (.bool false))):=Z5 (λh=>by have:=h.1;omega)
  go_in
  go_wp2;go_ret;exact⟨n,J4 _ _⟩
 go_in
 go_wp2;go_loopw[3] (λg wr=>∃k:Nat,k<=ls.length/\g=.int .i64 k/\Below w.heap.size w wr/\Hid (∀j,j<k->Oh (ls.getD j l_))) (λg _=>ls.length-(RowKit.intOf g).toNat);exact⟨0,I4 _,rfl,J4 _ _,λj h=>absurd h (U7 _)⟩;obtain⟨k,hk,rfl,c,p⟩:=hrel;by_cases m:k<ls.length
 ·obtain⟨ha,f,v⟩:=Zb D.out m;subst ha;obtain⟨g0,g1,g2,g3⟩:=v k m;have g0:=(c.cell (by exact f)).trans g0;have g1:=(c.cell (by exact f)).trans g1;have g2:=(c.cell (by exact f)).trans g2;have g3:=(c.cell (by exact f)).trans g3;have o:=C.out k;have n:Hid (¬Oh (ls.getD k l_)->Ia (Ee ls) (.returned (.bool false))):=λh=>Z5 λd=>h (d.2 k m);have B:Hid (Oh (ls.getD k l_)->∀j,j<k+1->Oh (ls.getD j l_)):=λh j u=>by
   rcases P7 j k with h1|h1
   ·exact p j h1
   obtain rfl:j=k:=O0;exact h
  generalize ls.getD k l_=x at*
  go_wp2_with fail
  refine(a3y x wr ⟨by have:=o.1;omega,by have:=o.2;omega⟩).mono ?_;rintro e w1⟨⟨r,rfl,hr⟩,y⟩;have q:=P5 c y;cases r
  ·have t:=U0 (n.out λh=>absurd (hr.2 h) Jh);go_wp2;go_ret;exact⟨t,q⟩
  have l:=U0 (B.out (hr.1 rfl));go_wp2;go_roundw;exact⟨k+1,O0,by go_num,q,l⟩;exact P9
 have l:Hid (Ia (Ee ls) (.returned (.bool true))):=Jf ⟨O0,λj u=>p.out j O0⟩;go_wp2;go_ret;exact⟨l,c⟩
theorem JX(a:OA)(B:Nat)(ls:List L4)(w:World)(hl:ls.length<=1048576)(s:∀i,(ls.getD i l_).le 1048576)(z:X6 w a ls):
 Calls prog 186 #[.slice a ls.length B] w λe w'=>Ia (Ee ls) e/\Bw w w':=by
 obtain⟨b,off,hc⟩:=Ie z;have E:=U0 hc;have D:=U0 s;by_cases hbig:15<ls.length
 ·have n:Hid (Ia (Ee ls) (.returned (.bool false))):=Z5 (λh=>by have:=h.1;omega)
  go_in
  go_wp2;go_ret;exact⟨n,J4 _ _⟩
 go_in
 go_wp2;go_loopw[10] (λg wr=>∃k:Nat,k<=ls.length/\g=.int .i64 k/\Below w.heap.size w wr/\Hid (∀j,j<k->Oh (ls.getD j l_))) (λg _=>ls.length-(RowKit.intOf g).toNat);exact⟨0,I4 _,rfl,J4 _ _,λj h=>absurd h (U7 _)⟩;obtain⟨k,hk,rfl,c,p⟩:=hrel;by_cases m:k<ls.length
 ·obtain⟨ha,f,v⟩:=Zb E.out m;subst ha;obtain⟨g0,g1,g2,g3⟩:=v k m;have g0:=(c.cell (by exact f)).trans g0;have g1:=(c.cell (by exact f)).trans g1;have g2:=(c.cell (by exact f)).trans g2;have g3:=(c.cell (by exact f)).trans g3;have o:=D.out k;have n:Hid (¬Oh (ls.getD k l_)->Ia (Ee ls) (.returned (.bool false))):=λh=>Z5 λd=>h (d.2 k m);have C:Hid (Oh (ls.getD k l_)->∀j,j<k+1->Oh (ls.getD j l_)):=λh j u=>by
   rcases P7 j k with h1|h1
   ·exact p j h1
   obtain rfl:j=k:=O0;exact h
  generalize ls.getD k l_=x at*
  go_wp2_with fail
  have A:Bw w (wr.alloc (.cells #[.bool x.has,vS x.nm,vI x.cd,vS x.tx] 201)):=c.alloc c.size _;generalize (wr.alloc (.cells #[.bool x.has,vS x.nm,vI x.cd,vS x.tx] 201))=V at*;refine(a3u x V ⟨by have:=o.1;omega,by have:=o.2;omega⟩).mono ?_;rintro e w1⟨⟨r,rfl,hr⟩,y⟩;have q:=P5 A y;cases r
  ·have t:=U0 (n.out λh=>absurd (hr.2 h) Jh);go_wp2;go_ret;exact⟨t,q⟩
  have l:=U0 (C.out (hr.1 rfl));go_wp2;go_roundw;exact⟨k+1,O0,by go_num,q,l⟩;exact P9
 have l:Hid (Ia (Ee ls) (.returned (.bool true))):=Jf ⟨O0,λj u=>p.out j O0⟩;go_wp2;go_ret;exact⟨l,c⟩
def Dx(P:Program)(md:Region.Mode)(ops:Array Oper)(Q:Exit->Act->World->Prop)(S:World->Prop)(T:Nat):Nat->Array Bool->Act->World->Prop
 | 0,l,a,w=>Region.ready md ops l=[]/\Q .normal a w
 | n+1,l,a,w=>(Region.ready md ops l=[]->Q .normal a w)/\∀i∈Region.ready md ops l,wpOp P ops Q i (λa' w'=>(i≠T->S w')/\Dx P md ops Q S T n (l.setIfInBounds i true) a' w') a w
section
variable{P:Program}{ops:Array Oper}{Q:Exit->Act->World->Prop}{md:Region.Mode}{S:World->Prop}{T:Nat}
theorem jW(n:Nat):∀(l:Array Bool)(a:Act)(w:World),Dx P md ops Q S T n l a w->wpAny P md ops Q n l a w:=by
 induction n with
 | zero=>exact λ_ _ _ h=>h
 | succ n ih=>exact λ_ _ _ h=>⟨h.1,λi b=>wpOp_mono (λd w' c=>ih _ d w' c.2) (h.2 i b)⟩
def Nv(md:Region.Mode)(ops:Array Oper)(T i:Nat):Bool:=(ops[T]?).any λo=>o.after.any λe=>Region.binds md e&&e.on==i
theorem WX{l:Array Bool}{T i:Nat}(hT:Nv md ops T i=true)(d:i∈Region.ready md ops l):T∉Region.ready md ops l:=λh=>by
 obtain⟨_,o,ho,e⟩:=mem_ready.1 h;unfold Nv at hT;rw[ho]at hT;simp only[Option.any_some,Array.any_eq_true]at hT;obtain⟨k,c,a⟩:=hT;simp only[X_,Zo]at a;have h1:=e _ (Array.getElem_mem c) a.1;have h0:=(mem_ready.1 d).1;rw[a.2]at h1;rcases P7 i l.size with b|b
 ·simp[b]at h0 h1;rw[h0]at h1;cases h1
 simp[Kq b]at h1
theorem rM{i:Nat}{g:Oper}{v:Value}(s:ops[i]?=some g)(hT:Nv md ops T i=true)(x:∀(j:Nat)(o:Oper) cs b,ops[j]?=some o->o.op≠.select cs b)
 (hQ:∀c a w,Q (.panic c) (a.put g.dst v) w->Q (.panic c) a w) (n:Nat):∀(l:Array Bool)(a:Act)(w:World),
  (∀j f,ops[j]?=some f->j≠i->l.getD j true=false->(∀e∈f.after,Region.binds md e=true->e.on≠i)->g.apart ops f=true)->
  i∈Region.ready md ops l->YieldsIf P ops S g v a->S w->
  Dx P md ops Q S T n (l.setIfInBounds i true) (a.put g.dst v) w->Dx P md ops Q S T (n+1) l a w:=by
 have E:∀(l:Array Bool) j,i∈Region.ready md ops l->j∈Region.ready md ops l->j≠T:=λl j h1 h2 e=>WX hT h1 (e▸h2)
 induction n with
 | zero=>
  refine λl a w _ hr q p H=>⟨λh=>absurd (h▸hr) Vm,λj m=>?_⟩;by_cases d:j=i
  ·subst d;exact q.wpOp s p ⟨λ_=>p,H⟩
  exact absurd (H.1▸ready_mono m d) Vm
 | succ n ih=>
  refine λl a w A hr q p H=>⟨λh=>absurd (h▸hr) Vm,λj m=>?_⟩;by_cases d:j=i
  ·subst d;exact q.wpOp s p ⟨λ_=>p,H⟩
  have L:=E l j hr m;obtain⟨u,f,r,R⟩:=mem_ready.1 m;have F:∀e∈f.after,Region.binds md e=true->e.on≠i:=λe he O N=>by
   have h1:=R e he O;have h0:=(mem_ready.1 hr).1;rw[N]at h1;rcases P7 i l.size with t|t
   ·simp[t]at h0 h1;rw[h0]at h1;cases h1
   simp[Kq t]at h1
  refine wpOp_mono (λU w' h=>?_) (wpOp_putIf r (A j f r d u F) (λcs b=>x i g cs b s) (λcs b=>x j f cs b r) hQ q (H.2 j (ready_mono m d)));obtain⟨B,y,C⟩:=h;refine⟨y,ih _ U w' (λk ok K J D I=>A k ok K J ?_ I) (ready_mono hr (Ne.symm d)) B (y L) ?_⟩
  ·by_cases z:j=k
   ·exact z▸u
   rwa[getD_set_ne true z]at D
  rw[Array.setIfInBounds_comm _ _ d];exact C
theorem YT{i:Nat}(hT:Nv md ops T i=true){b:Oper}{v:Value}{n:Nat}{l:Array Bool}{a:Act}{w:World}(d:ops[i]?=some b)
 (f:Region.noSelect ops=true) (hf:Region.free md ops l i=true) (hr:(Region.ready md ops l).contains i=true)
 (hQ:∀c a w,Q (.panic c) (a.put b.dst v) w->Q (.panic c) a w) (e:YieldsIf P ops S b v a) (g:S w)
 (h:Dx P md ops Q S T n (l.setIfInBounds i true) (a.put b.dst v) w):Dx P md ops Q S T (n+1) l a w:=
 rM d hT (Region.noSelect_spec f) hQ n l a w (Region.free_spec d hf) (by simpa using hr) e g h
def r_(P:Program)(md:Region.Mode)(ops:Array Oper)(Q:Exit->Act->World->Prop)(S:World->Prop)(T n:Nat)(l:Array Bool)(a:Act)(w:World)(rs:List Nat):Prop:=
 ∀i∈rs,wpOp P ops Q i (λa' w'=>(i≠T->S w')/\Dx P md ops Q S T n (l.setIfInBounds i true) a' w') a w
theorem r_.nil{n:Nat}{l:Array Bool}{a:Act}{w:World}:r_ P md ops Q S T n l a w []:=λ_ h=>absurd h Vm
theorem r_.cons{n:Nat}{l:Array Bool}{a:Act}{w:World}{i:Nat}(hne:i≠T){o:Oper}{rs:List Nat}(ho:ops[i]?=some o)
 (h:∀b:Act->World->Prop,Shut (∀a w,S w->(S w->Dx P md ops Q S T n (l.setIfInBounds i true) a w)->b a w)->if Region.wanted o (yielded ops a.tmps)=true then Oper.wp P o a w b Q else b (a.put o.dst undef) w)
 (e:r_ P md ops Q S T n l a w rs):r_ P md ops Q S T n l a w (i::rs):=λj c=>by
 rcases je.1 c with rfl|c
 ·exact wpOp_step ho (λb g=>h b (λa w d f=>g a w ⟨λ_=>d,f d⟩))
 exact e j c
theorem r_.last{n:Nat}{l:Array Bool}{a:Act}{w:World}{o:Oper}(ho:ops[T]?=some o)
 (h:∀b:Act->World->Prop,Shut (∀a w,Dx P md ops Q S T n (l.setIfInBounds T true) a w->b a w)->if Region.wanted o (yielded ops a.tmps)=true then Oper.wp P o a w b Q else b (a.put o.dst undef) w):r_ P md ops Q S T n l a w [T]:=λj c=>by
 obtain rfl:=jo.1 c;exact wpOp_step ho (λb f=>h b (λa w d=>f a w ⟨λe=>absurd rfl e,d⟩))
theorem Ip{rs:List Nat}{n:Nat}{l:Array Bool}{a:Act}{w:World}(hr:Region.ready md ops l=rs)(b:rs≠[])(h:r_ P md ops Q S T n l a w rs):Dx P md ops Q S T (n+1) l a w:=
 ⟨λh0=>absurd (hr▸h0) b,hr▸h⟩
theorem lu{l:Array Bool}{a:Act}{w:World}(hr:Region.ready md ops l=[])(h:Q .normal a w)(n:Nat):Dx P md ops Q S T n l a w:=by
 cases n with
 | zero=>exact⟨hr,h⟩
 | succ n=>exact⟨λ_=>h,by rw[hr];simp⟩
theorem Tn{b:Nat}{a:Act}{w:World}(T:Nat)(hm:P.follows .mixedOrders=true)(c:S w.drew)
 (h:S w.drew->Dx P .any ops Q S T ops.size (Array.replicate ops.size false) a w.drew):(Code.region b ops true).wp P Q a w:=
 wp_region_any hm (jW _ _ _ _ (h c))
theorem wrl{V:World}{c:Nat}{a:Act}{w:World}(T:Nat)(C:Go.RowKit.Hid (∀u,Bw V u->S u))(b:Bw V w.drew)(hm:P.follows .mixedOrders=true)(h:S w.drew->Dx P .any ops Q S T ops.size (Array.replicate ops.size false) a w.drew):(Code.region c ops true).wp P Q a w:=Tn T hm (C.out _ b) h
theorem lk{i:Nat}{b:Oper}{v:Value}{n:Nat}{l:Array Bool}{a:Act}{w:World}(e:ops[i]?=some b)(d:(Nv md ops T i&&Region.noSelect ops&&Region.free md ops l i&&(Region.ready md ops l).contains i)=true)(hw:Region.wanted b (yielded ops a.tmps)=true)(hv:∀u,S u->(execOp a.eval b).run P u=.ok (.value v) u)(f:S w)(h:Dx P md ops Q S T n (l.setIfInBounds i true) (a.put b.dst v) w)(hQ:∀c a w,Q (.panic c) (a.put b.dst v) w->Q (.panic c) a w:=by exact λ_ _ _ h=>h):Dx P md ops Q S T (n+1) l a w:=by
 simp only[X_]at d;exact YT d.1.1.1 e d.1.1.2 d.1.2 d.2 hQ (.inl ⟨hw,hv⟩) f h
theorem lq{v:Value}{n:Nat}{l:Array Bool}{a:Act}{w:World}{d:Option Nat}{op:Op}{ty:TypeId}{p:String}{af:Array Edge}{g:Option (Nat×Bool)}(i:Nat)(f:S w)(h:Dx P md ops Q S T n (l.setIfInBounds i true) (a.put d v) w)(b:ops[i]?=some ⟨d,op,ty,p,af,g⟩:=by exact rfl)(e:(Nv md ops T i&&Region.noSelect ops&&Region.free md ops l i&&(Region.ready md ops l).contains i)=true:=by kernel_rfl)(hw:Region.wanted ⟨d,op,ty,p,af,g⟩ (yielded ops a.tmps)=true:=by exact rfl)(hv:∀u,S u->(execOp a.eval ⟨d,op,ty,p,af,g⟩).run P u=.ok (.value v) u:=by intro wq hSw;(try dsimp only at hSw);go_simp;try with_reducible rfl)(hQ:∀c a w,Q (.panic c) (a.put d v) w->Q (.panic c) a w:=by first|exact λ_ _ _ h=>h|exact λ_ _ _ h=>hQ _ _ _ _ _ h):Dx P md ops Q S T (n+1) l a w:=lk b e hw hv f h hQ
theorem lr{i:Nat}{o:Oper}{n:Nat}{l:Array Bool}{a:Act}{w:World}(ho:ops[i]?=some o)(c:i≠T)(hr:Region.ready md ops l=[i])(h:∀b:Act->World->Prop,Shut (∀a w,S w->(S w->Dx P md ops Q S T n (l.setIfInBounds i true) a w)->b a w)->if Region.wanted o (yielded ops a.tmps)=true then Oper.wp P o a w b Q else b (a.put o.dst undef) w):Dx P md ops Q S T (n+1) l a w:=Ip hr O4 (r_.cons c ho h r_.nil)
theorem lz{o:Oper}{n:Nat}{l:Array Bool}{a:Act}{w:World}(ho:ops[T]?=some o)(hr:Region.ready md ops l=[T])(h:∀b:Act->World->Prop,Shut (∀a w,Dx P md ops Q S T n (l.setIfInBounds T true) a w->b a w)->if Region.wanted o (yielded ops a.tmps)=true then Oper.wp P o a w b Q else b (a.put o.dst undef) w):Dx P md ops Q S T (n+1) l a w:=Ip hr O4 (r_.last ho h)
theorem AZ{o:Oper}{a:Act}{w w':World}{v:Value}{K:Act->World->Prop}{E:Prop}(b:o.guard=none)(hr:(execOp a.eval o).run P w=.ok (.value v) w')(c:K (a.put o.dst v) w'):if Region.wanted o (yielded ops a.tmps)=true then Oper.wp P o a w K Q else E:=by
 rw[D8 (by simp[Region.wanted,b])];unfold Oper.wp;rw[hr];exact c
theorem YF{o:Oper}{a:Act}{w w':World}{K:Act->World->Prop}{E:Prop}(b:o.guard=none)(hr:(execOp a.eval o).run P w=.ok .skip w')(c:K (a.put o.dst undef) w'):if Region.wanted o (yielded ops a.tmps)=true then Oper.wp P o a w K Q else E:=by
 rw[D8 (by simp[Region.wanted,b])];unfold Oper.wp;rw[hr];exact c
theorem b_{rest:List Oper}{o:Oper}{a:Act}{w w':World}{v:Value}(b:o.guard=none)(hr:(execOp a.eval o).run P w=.ok (.value v) w')(h:wpList P ops Q rest (a.put o.dst v) w'):wpList P ops Q (o::rest) a w:=by
 refine qw b λK c=>?_;unfold Oper.wp;rw[hr];exact c _ _ h
theorem DF{rest:List Oper}{o:Oper}{a:Act}{w w':World}(b:o.guard=none)(hr:(execOp a.eval o).run P w=.ok .skip w')(h:wpList P ops Q rest (a.put o.dst undef) w'):wpList P ops Q (o::rest) a w:=by
 refine qw b λK c=>?_;unfold Oper.wp;rw[hr];exact c _ _ h
end
def Cl(w:World)(b:Nat)(t:TypeId)(xs:List Value):Prop:=w.heap[b]?=some (.cells xs.toArray t (0,0))
structure Wx(B:Nat)(w w':World):Prop where
 os:w'.os=w.os
 tape:w'.tape=w.tape
 output:w'.output=w.output
 size:w'.heap.size=w.heap.size
 block:∀k,k≠B->w'.heap[k]?=w.heap[k]?
theorem Cl.lt{w:World}{b:Nat}{t:TypeId}{xs:List Value}(h:Cl w b t xs):b<w.heap.size:=(Ua.1 h).1
theorem Cl.cell{w:World}{b:Nat}{t:TypeId}{xs:List Value}(h:Cl w b t xs)(j:Nat):w.cell? ⟨b,j,none⟩=xs[j]?:=by
 rw[Lib.cell_of_heap h j];simp
theorem Cl.opn{w:World}{b:Nat}{t:TypeId}{xs:List Value}(h:Cl w b t xs)(j:Nat):w.frozen? ⟨b,j,none⟩=false:=Lib.frozen_of_heap h j
theorem Cl.blk{w:World}{b:Nat}{t:TypeId}{xs:List Value}(h:Cl w b t xs):E5 w b xs:=λj v e=>(h.cell j).trans e
theorem Cl.on{w w':World}{b B:Nat}{t:TypeId}{xs:List Value}(h:Cl w b t xs)(ho:Wx B w w')(a:b≠B):Cl w' b t xs:=(ho.block b a).trans h
theorem Cl.below{w w':World}{b N:Nat}{t:TypeId}{xs:List Value}(h:Cl w b t xs)(a:Below N w w')(c:b<N):Cl w' b t xs:=(a.block b c).trans h
theorem Cl.set{w:World}{b:Nat}{t:TypeId}{xs:List Value}(h:Cl w b t xs)(j:Nat)(v:Value):Cl (w.setCell ⟨b,j,none⟩ v) b t (xs.set j v):=by
 have:=heap_setCell_same w b j _ t v h;unfold Cl;rw[this,ES]
theorem Tc(w:World)(b j:Nat)(v:Value):Wx b w (w.setCell ⟨b,j,none⟩ v):=⟨rfl,rfl,rfl,O4,λk a=>VD _ _ _ _ a⟩
theorem Wx.below{B N:Nat}{w w':World}(h:Wx B w w')(hN:N<=B):Below N w w':=⟨h.os,h.tape,h.output,Zj h.size.symm,λk hk=>h.block k O0⟩
theorem U3(w:World)(xs:List Value)(t:TypeId):Cl (w.alloc (.cells xs.toArray t)) w.heap.size t xs:=heap_alloc_new w _
theorem G8{w:World}{b:Nat}{t:TypeId}{xs:List Value}(h:Cl w b t xs)(o:Obj):Cl (w.alloc o) b t xs:=(Lib.alloc_old w o b h.lt).trans h
theorem jm{w:World}{b:Nat}{t:TypeId}{xs:List Value}(h:Cl w b t xs):∀j u,xs[j]?=some u->w.cell? ((⟨b,0,none⟩:Addr).add j)=some u:=λj u e=>by
 have ha:(aA b 0).add j=(aA b j):=by unfold Addr.add;split<;>simp_all
 rw[ha];exact(h.cell j).trans e
theorem Cl.fil{w:World}{B:Nat}{t:TypeId}{xs:List Value}(vs:List Value):∀(j:Nat),Cl w B t xs->∃ys,Cl (fill w B j vs) B t ys/\ys.length=xs.length/\∀i,ys[i]?=if j<=i/\i<j+vs.length/\i<xs.length then vs[i-j]? else xs[i]?:=by
 induction vs generalizing w xs with
 | nil=>exact λj h=>⟨xs,h,rfl,λi=>by rw[Y7];simp;omega⟩
 | cons v vs ih=>
  intro j h;obtain⟨ys,h1,h2,b⟩:=ih (j+1) (h.set j v);refine⟨ys,h1,by simpa using h2,λi=>?_⟩;rw[b i];simp only[List.length_set,x_];by_cases a:i=j
  ·subst a;rw[Y7 O0];by_cases hl:i<xs.length
   ·rw[D8 ⟨O0,O0,hl⟩,List.getElem?_set_self hl];simp
   rw[Y7 O0];simp[Mc (show(xs.set i v).length<=i by simp;omega),Mc (show xs.length<=i by omega)]
  by_cases hc:j<=i/\i<j+(vs.length+1)/\i<xs.length
  ·rw[D8 hc,D8 O0];obtain⟨d,rfl⟩:∃d,i=j+1+d:=⟨i-(j+1),O0⟩;have e1:j+1+d-j=d+1:=O0;have c:j+1+d-(j+1)=d:=O0;rw[e1,c];simp
  rw[Y7 hc,Y7 O0,List.getElem?_set_ne O0]
theorem KE(B:Nat)(vs:List Value):∀(w:World)(j:Nat),Wx B w (fill w B j vs):=by
 induction vs with
 | nil=>exact λw j=>⟨rfl,rfl,rfl,rfl,λ_ _=>rfl⟩
 | cons v vs ih=>
  intro w j;have h1:=Tc w B j v;have h2:=ih (w.setCell (aA B j) v) (j+1);exact⟨h2.os.trans h1.os,h2.tape.trans h1.tape,h2.output.trans h1.output,h2.size.trans h1.size,λk a=>(h2.block k a).trans (h1.block k a)⟩
def Ap(xs:List Value)(j:Nat)(vs:List Value):List Value:=xs.take j++vs++xs.drop (j+vs.length)
theorem Cl.UY{w:World}{B:Nat}{t:TypeId}{xs vs:List Value}{j:Nat}(h:Cl w B t xs)(hl:j+vs.length<=xs.length):Cl (fill w B j vs) B t (Ap xs j vs):=by
 obtain⟨ys,h1,h2,c⟩:=h.fil vs j;have:ys=Ap xs j vs:=by
  apply List.ext_getElem?;intro i;rw[c i];unfold Ap;by_cases b:i<j
  ·rw[Y7 O0,Jq,R_ X7,lD b]
  by_cases a:i<j+vs.length
  ·rw[D8 ⟨O0,a,O0⟩,Jq,rf X7,R_ X7]
   congr 1
   simp;omega
  rw[Y7 O0,rf X7,UE]
  congr 1
  simp;omega
 rw[<- this];exact h1
section
variable{P:Program}{ops:Array Oper}{Q:Exit->Act->World->Prop}
theorem zI{o:Oper}{a:Act}{w:World}(ty:TypeId)(x y:Operand)(ho:o.op=.store ty x y){B j:Nat}{t:TypeId}{xs vs:List Value}(hx:a.eval x=.pointer (some ⟨B,j,none⟩))(b:a.eval y=.agg vs.toArray)(hB:Cl w B t xs)(hl:j+vs.length<=xs.length)(h1:∀v∈vs,v.oneCell'=true)(c:(P.info? ty).map (·.size)=some vs.length):
 (execOp a.eval o).run P w=.ok .skip (fill w B j vs):=by
 unfold execOp;simp only[ho,hx,b,Instr.storeAt,Instr.sureAddr,zi,uo,Nl,xh w B j ty vs (λi h=>by rw[hB.cell];simp;omega) (λj=>hB.opn j) h1 c]
theorem Va{o:Oper}{a:Act}{w:World}{K:Act->World->Prop}{E:Prop}(d:o.guard=none)(ty:TypeId)(x y:Operand)(ho:o.op=.store ty x y){B j:Nat}{t:TypeId}{xs vs:List Value}(hx:a.eval x=.pointer (some ⟨B,j,none⟩))(b:a.eval y=.agg vs.toArray)(hB:Cl w B t xs)(hl:j+vs.length<=xs.length)(h1:∀v∈vs,v.oneCell'=true)(c:(P.info? ty).map (·.size)=some vs.length)
 (e:∀w',Cl w' B t (Ap xs j vs)->Wx B w w'->K (a.put o.dst undef) w'):if Region.wanted o (yielded ops a.tmps)=true then Oper.wp P o a w K Q else E:=
 YF d (zI ty x y ho hx b hB hl h1 c) (e _ (hB.UY hl) (KE _ _ _ _))
theorem N8{rest:List Oper}{o:Oper}{a:Act}{w:World}(d:o.guard=none)(ty:TypeId)(x y:Operand)(ho:o.op=.store ty x y){B j:Nat}{t:TypeId}{xs vs:List Value}(hx:a.eval x=.pointer (some ⟨B,j,none⟩))(b:a.eval y=.agg vs.toArray)(hB:Cl w B t xs)(hl:j+vs.length<=xs.length)(h1:∀v∈vs,v.oneCell'=true)(c:(P.info? ty).map (·.size)=some vs.length)
 (e:∀w',Cl w' B t (Ap xs j vs)->Wx B w w'->wpList P ops Q rest (a.put o.dst undef) w'):wpList P ops Q (o::rest) a w:=
 DF d (zI ty x y ho hx b hB hl h1 c) (e _ (hB.UY hl) (KE _ _ _ _))
theorem I7{o:Oper}{a:Act}{w:World}(ty:TypeId)(x:Operand)(ho:o.op=.load ty x){B j:Nat}{cs:List Value}{d:TypeDesc}(hx:a.eval x=.pointer (some ⟨B,j,none⟩))(hc:∀i v,cs[i]?=some v->w.cell? ⟨B,j+i,none⟩=some v)(c:P.underlying ty=some d)(hd:(match d with | .struct _ | .array _ _=>true|_=>false)=true)(b:(P.info? ty).map (·.size)=some cs.length):
 (execOp a.eval o).run P w=.ok (.value (.agg cs.toArray)) w:=by
 have hl:(loadCells (aA B j) cs.length).run P w=.ok cs.toArray w:=
  run_loadCells_list (P:=P) w (aA B j) cs (λi v hv=>by rw[Sj];exact hc i v hv)
 have hr:(loadVar ty (aA B j)).run P w=.ok (.agg cs.toArray) w:=by
  cases hq:P.info? ty with
  | none=>simp[hq]at b
  | some i=>
   have e:i.size=cs.length:=by simpa[hq]using b
   have f:(isAgg ty).run P w=.ok true w:=by
    unfold isAgg;rw[zi,Yr c w];cases d<;>simp_all
   simp[loadVar,f,sizeOf,typeInfo,hq,e,hl]
 unfold execOp;simp only[ho,hx,Instr.loadAt,Instr.sureAddr,zi,uo,Nl,hr]
def Inf(P:Program)(e:TypeId)(size:Nat):Prop:=∃i z,P.info? e=some i/\i.zero=some z/\i.size=size/\z.cells.size=size/\i.bytes<=1000
theorem Um{e:TypeId}{size:Nat}(h:((P.info? e).map λi=>(i.zero.map λz=>z.cells.size,i.size,decide (i.bytes<=1000)))=some (some size,size,true)):Inf P e size:=by
 cases hq:P.info? e with
 | none=>rw[hq]at h;cases h
 | some i=>
  rw[hq]at h;simp only[yu,Au,UI,Zc]at h;obtain⟨h1,h2,c⟩:=h;obtain⟨z,b,a⟩:=Wy.1 h1;exact⟨i,z,hq,b,h2,a,c⟩
def Src(w:World)(sv:Value)(size m:Nat)(news:List Value):Prop:=((∃c,sv=.slice none 0 c)/\m=0/\news=[])\/∃ad c,sv=.slice (some ad) m c/\news.length=m*size/\∀j u,news[j]?=some u->w.cell? (ad.add j)=some u
theorem PG(w:World)(base:Nat)(t ty e:TypeId)(size:Nat)(ht:P.underlying t=some (.slice e))(s:Inf P e size)(k:0<size)(v:Value)(n:Nat)(xs:List Value)(b:w.ownsRow base e size v n xs)(f:Value)(m:Nat)(a:List Value)(o:Src w f size m a)(h1:∀u∈a,u.oneCell'=true)(r:n+m<=2000000)(y:base<=w.heap.size):
 ∃v' w',(Builtin.append_ #[t,t] ty #[v,f]).run P w=.ok v' w'/\w'.ownsRow base e size v' (n+m) (xs++a)/\w.grownBy w' v.ownBlock/\(v'.ownBlock=v.ownBlock\/v'.ownBlock=some w.heap.size):=by
 obtain⟨i,z,d,j,l,h,x⟩:=s;rcases o with⟨⟨c,rfl⟩,rfl,rfl⟩|⟨C,c,rfl,hl,p⟩
 ·refine⟨v,w,?_,by simpa using b,⟨rfl,rfl,rfl,J9 _,λ_ _ _=>rfl⟩,.inl rfl⟩;rcases b.2 with⟨rfl,rfl⟩|⟨g,cap,cur,rfl,hbg,hg,q,hcm,hcs,htake⟩
  ·simp[Builtin.append_,Yr ht,sizeOf,typeInfo,d,Builtin.lenOf,Builtin.firstCells]
  simp[Builtin.append_,Yr ht,sizeOf,typeInfo,d,Builtin.lenOf,Builtin.firstCells,loadCells,q,storeCells]
 obtain⟨v',w',hr,h2,B,h4,A⟩:=run_append_own_at (P:=P) w base t ty e i z size i.bytes ht d j l rfl h k v n xs b C m c a hl p h1 (by simp only[maxLen];omega) (Q8 (Nat.mul_le_mul r x) J6) y;exact⟨v',w',hr,h2,B,A⟩
theorem Qc{o:Oper}{a:Act}{w:World}{K:Act->World->Prop}{E:Prop}(l:o.guard=none)(s x:Operand)(t:TypeId)(ho:o.op=.call { callee:=.builtin .append,args:=#[s,x],argTypes:=#[t,t] })
 (base:Nat) (e:TypeId) (size:Nat) (ht:P.underlying t=some (.slice e)) (k:Inf P e size) (d:0<size) (v:Value) (n:Nat) (xs:List Value) (g:a.eval s=v) (i:w.ownsRow base e size v n xs) (c:Value) (m:Nat) (b:List Value) (hx:a.eval x=c) (f:Src w c size m b) (h1:∀u∈b,u.oneCell'=true) (j:n+m<=2000000) (p:base<=w.heap.size)
 (h:∀v' w',w'.ownsRow base e size v' (n+m) (xs++b)->w.grownBy w' v.ownBlock->(v'.ownBlock=v.ownBlock\/v'.ownBlock=some w.heap.size)->K (a.put o.dst v') w'):if Region.wanted o (yielded ops a.tmps)=true then Oper.wp P o a w K Q else E:=by
 obtain⟨v',w',hr,h2,r,q⟩:=PG w base t o.type e size ht k d v n xs i c m b f h1 j p;refine AZ l (v:=v') (w':=w') ?_ (h v' w' h2 r q);unfold execOp;simp only[ho,resolve,invoke,builtin,zi,uo,Nl,RI,Hr,aF,g,hx,hr]
theorem Nr{rest:List Oper}{o:Oper}{a:Act}{w:World}(l:o.guard=none)(s x:Operand)(t:TypeId)(ho:o.op=.call { callee:=.builtin .append,args:=#[s,x],argTypes:=#[t,t] })
 (base:Nat) (e:TypeId) (size:Nat) (ht:P.underlying t=some (.slice e)) (k:Inf P e size) (d:0<size) (v:Value) (n:Nat) (xs:List Value) (g:a.eval s=v) (i:w.ownsRow base e size v n xs) (c:Value) (m:Nat) (b:List Value) (hx:a.eval x=c) (f:Src w c size m b) (h1:∀u∈b,u.oneCell'=true) (j:n+m<=2000000) (p:base<=w.heap.size)
 (h:∀v' w',w'.ownsRow base e size v' (n+m) (xs++b)->w.grownBy w' v.ownBlock->(v'.ownBlock=v.ownBlock\/v'.ownBlock=some w.heap.size)->wpList P ops Q rest (a.put o.dst v') w'):wpList P ops Q (o::rest) a w:=by
 obtain⟨v',w',hr,h2,r,q⟩:=PG w base t o.type e size ht k d v n xs i c m b f h1 j p;refine b_ l (v:=v') (w':=w') ?_ (h v' w' h2 r q);unfold execOp;simp only[ho,resolve,invoke,builtin,zi,uo,Nl,RI,Hr,aF,g,hx,hr]
end
section
variable{P:Program} (w:World)
end
section
variable{P:Program}{ops:Array Oper}{Q:Exit->Act->World->Prop}
end
end Go.Proofs.YtbgdfcmeheaiiaaGreatDoor
namespace Go.Proofs.YtbgdfcmeheaiiaaGreatDoor
open Proofs.Tryz Go.RowKit
section
variable{P:Program}{ops:Array Oper}{Q:Exit->Act->World->Prop}{md:Region.Mode}{S:World->Prop}{T:Nat}
end
section
variable{P:Program}{ops:Array Oper}{Q:Exit->Act->World->Prop}{md:Region.Mode}{S:World->Prop}{T n:Nat}{v:Value}{l:Array Bool}{a a1:Act}{w:World}{d:Option Nat}{op:Op}{ty:TypeId}{p:String}{af:Array Edge}{g:Option (Nat×Bool)}
theorem SY(i:Nat)(h:∀b:Act->World->Prop,Shut (∀a w,S w->(S w->Dx P md ops Q S T n (l.setIfInBounds i true) a w)->b a w)->if Region.wanted ⟨d,op,ty,p,af,g⟩ (yielded ops a.tmps)=true then Oper.wp P ⟨d,op,ty,p,af,g⟩ a w b Q else b (a.put d undef) w)(ho:ops[i]?=some ⟨d,op,ty,p,af,g⟩:=by exact rfl)(c:i≠T:=by decide)(hr:Region.ready md ops l=[i]:=by kernel_rfl):Dx P md ops Q S T (n+1) l a w:=lr ho c hr h
theorem lzq(h:∀b:Act->World->Prop,Shut (∀a w,Dx P md ops Q S T n (l.setIfInBounds T true) a w->b a w)->if Region.wanted ⟨d,op,ty,p,af,g⟩ (yielded ops a.tmps)=true then Oper.wp P ⟨d,op,ty,p,af,g⟩ a w b Q else b (a.put d undef) w)(ho:ops[T]?=some ⟨d,op,ty,p,af,g⟩:=by exact rfl)(hr:Region.ready md ops l=[T]:=by kernel_rfl):Dx P md ops Q S T (n+1) l a w:=lz ho hr h
end
end Go.Proofs.YtbgdfcmeheaiiaaGreatDoor
namespace Go.Proofs.YtbgdfcmeheaiiaaGreatDoor
open Proofs.Tryz Go.RowKit
theorem A8{l:List Value}(h:l.all Value.oneCell'=true):∀v∈l,v.oneCell'=true:=Oo.1 h
def isC(d:TypeDesc):Bool:=match d with | .struct _ | .array _ _=>false|_=>true
section
variable{P:Program}{ops:Array Oper}{Q:Exit->Act->World->Prop}{rest:List Oper}{o:Oper}{a:Act}
theorem cells_one{v:Value}(h:v.oneCell'=true):v.cells=#[v]:=by cases v<;>first|rfl|cases h
theorem AA{w:World}(ty:TypeId)(x y:Operand)(ho:o.op=.store ty x y){B j:Nat}(hx:a.eval x=.pointer (some ⟨B,j,none⟩))(hv:(a.eval y).oneCell'=true)(hc:∃u,w.cell? ⟨B,j,none⟩=some u)(hf:w.frozen? ⟨B,j,none⟩=false)(b:(P.info? ty).map (·.size)=some 1):
 (execOp a.eval o).run P w=.ok .skip (w.setCell ⟨B,j,none⟩ (a.eval y)):=by
 generalize hy:a.eval y=v at*;obtain⟨u,d⟩:=hc;have e:(storeVar ty (aA B j) v).run P w=.ok () (w.setCell (aA B j) v):=by
  cases hq:P.info? ty with
  | none=>simp[hq]at b
  | some i=>
   have c:i.size=1:=by simpa[hq]using b
   simp[storeVar,cells_one hv,zi,sizeOf,typeInfo,hq,c,storeCells,xB P w _ v _ hv,Zq,d,hf]
 unfold execOp;simp only[ho,hx,hy,Instr.storeAt,Instr.sureAddr,zi,uo,Nl,e]
theorem vZ{w:World}{ty:TypeId}{d:TypeDesc}(a:P.underlying ty=some d)(hd:isC d=true):(isAgg ty).run P w=.ok false w:=by
 unfold isAgg;rw[zi,Yr a w,Nl];cases d<;>first|rfl|cases hd
theorem Qn{w:World}(ty:TypeId)(x:Operand)(ho:o.op=.load ty x){B j:Nat}{v:Value}(hx:a.eval x=.pointer (some ⟨B,j,none⟩))(hc:w.cell? ⟨B,j,none⟩=some v)(b:(P.underlying ty).map isC=some true):(execOp a.eval o).run P w=.ok (.value v) w:=by
 obtain⟨d,c,hd⟩:=Wy.1 b;have hr:(loadVar ty (aA B j)).run P w=.ok v w:=by
  unfold loadVar;rw[zi,vZ c hd,Nl];simp[hc]
 unfold execOp;simp only[ho,hx,Instr.loadAt,Instr.sureAddr,zi,uo,Nl,hr]
theorem G5{B:Nat}{t:TypeId}{cs:List Value}{w:World}(H:Cl w B t cs)(c:o.guard=none)(ty:TypeId)(x:Operand)(ho:o.op=.load ty x){j:Nat}{v:Value}(hx:a.eval x=.pointer (some ⟨B,j,none⟩))(hv:cs[j]?=some v)(b:(P.underlying ty).map isC=some true)(d:wpList P ops Q rest (a.put o.dst v) w):wpList P ops Q (o::rest) a w:=
 b_ c (Qn ty x ho hx ((H.cell j).trans hv) b) d
theorem EK{l cs:List Value}{j i:Nat}{v:Value}(hc:(l.drop j).take cs.length=cs)(e:cs[i]?=some v):l[j+i]?=some v:=by
 rw[<- UE];rw[<- hc,Xu]at e;split at e
 ·exact e
 cases e
theorem O8{B:Nat}{t:TypeId}{l:List Value}{w:World}(H:Cl w B t l)(f:o.guard=none)(ty:TypeId)(x:Operand)(ho:o.op=.load ty x){j:Nat}(cs:List Value){d:TypeDesc}(hx:a.eval x=.pointer (some ⟨B,j,none⟩))(hc:(l.drop j).take cs.length=cs)(b:P.underlying ty=some d)(hd:(match d with | .struct _ | .array _ _=>true|_=>false)=true)(c:(P.info? ty).map (·.size)=some cs.length)(g:wpList P ops Q rest (a.put o.dst (.agg cs.toArray)) w):wpList P ops Q (o::rest) a w:=
 b_ f (I7 ty x ho hx (λq v e=>(H.cell _).trans (EK hc e)) b hd c) g
end
theorem Ub{P:Program}{ops:Array Oper}{Q:Exit->Act->World->Prop}{rest:List Oper}{o:Oper}{a:Act}{w:World}{B:Nat}{t:TypeId}{cs:List Value}{d:TypeDesc}(H:Cl w B t cs)(e:o.guard=none)(ty:TypeId)(x:Operand)(ho:o.op=.load ty x)(hx:a.eval x=.pointer (some ⟨B,0,none⟩))(b:P.underlying ty=some d)(hd:(match d with | .struct _ | .array _ _=>true|_=>false)=true)(c:(P.info? ty).map (·.size)=some cs.length)(f:wpList P ops Q rest (a.put o.dst (.agg cs.toArray)) w):wpList P ops Q (o::rest) a w:=
 O8 H e ty x ho cs hx (by simp) b hd c f
theorem LC{P:Program}{ops:Array Oper}{Q:Exit->Act->World->Prop}{rest:List Oper}{o:Oper}{a:Act}{w:World}{g p:Nat}{t:TypeId}{xs:List Value}(d:o.guard=none)(ty:TypeId)(x y:Operand)(ho:o.op=.store ty x y)(hx:a.eval x=.pointer (some ⟨g,p,none⟩))(hv:(a.eval y).oneCell'=true)(c:(P.info? ty).map (·.size)=some 1)(hC:Cl w g t xs)(b:p<xs.length)
 (e:∀w',Hid (Cl w' g t (xs.set p (a.eval y)))->Wx g w w'->wpList P ops Q rest (a.put o.dst undef) w'):wpList P ops Q (o::rest) a w:=
 DF d (AA ty x y ho hx hv ⟨xs[p],by rw[hC.cell,D9 b]⟩ (hC.opn p) c) (e _ (hC.set _ _) (Tc _ _ _ _))
