import Derived.Maps.RangeWalk
import Derived.Laws.IdiomRangeMap
import Derived.Test.YtbgdfcmeheaiiaaGreatDooreY9
import Derived.Test.YtbgdfcmeheaiiaaGreatDooreYI
import Derived.Test.YtbgdfcmeheaiiaaGreatDoorvC
set_option linter.unusedVariables false
set_option linter.unusedSimpArgs false
set_option maxHeartbeats 8000000
set_option maxRecDepth 100000
namespace Go.Proofs.YtbgdfcmeheaiiaaGreatDoor
open Proofs.Tryz Go.RowKit Go.Maps
open Go.WideElems (Fit rd rg pl rd_val rd_key)
def tZ(p:BY×Int×ByteArray):Value:=.agg #[.string p.1,.int .i64 p.2.1,.string p.2.2]
open Classical in
noncomputable def qW(v:Value):Option (DataW Value×List MemPlace):=if ∃p,v=tZ p then some (.held v,[]) else none
theorem BK{v:Value}{y:DataW Value×List MemPlace}(h:qW v=some y):(∃p,v=tZ p)/\y=(.held v,[]):=by
 unfold qW at h;split at h
 ·rename_i a;exact⟨a,(D_ h).symm⟩
 cases h
theorem FQ{w:World}{b n:Nat}{f:List (ByteArray×Value)}(h:w.ownsMap prog 9 Oa b n (mapD f))(hf:∀p∈f,∃q,p.2=tZ q):w.ownsMap prog 9 qW b n (mapD f):=by
 obtain⟨es,clock,s,F,m,g⟩:=h;have l:∀x∈es.toList,∀z,Oa x.val=some z->qW x.val=some z:=λx hx z c=>by
  obtain⟨y,d⟩:=F.reads x hx;have hm:rg prog 9 Oa x∈(es.toList.map (rg prog 9 Oa)).foldr DataW.insert []:=mem_sorted.2 (rE hx);have t:f.map eS=(es.toList.map (rg prog 9 Oa)).foldr DataW.insert []:=by
   have:=g;unfold mapD at this;exact DataW.map.inj this
  rw[<- t]at hm;obtain⟨p,r,e⟩:=Zm.1 hm;have A:rg prog 9 Oa x=y:=by unfold rg;rw[d];rfl
  obtain⟨i,a,k⟩:=rd_val d;have j:i=(.held x.val,[]):=by unfold Oa at a;exact(Option.some.inj a).symm
  have v:DataW.held p.2=DataW.held x.val:=by
   have:=U6 Prod.snd (e.trans A);rw[k,j]at this;exact this
  have u:p.2=x.val:=by injection v
  obtain⟨q,o⟩:=hf p r;unfold Oa at c;unfold qW;rw[D8 ⟨q,u▸o⟩];exact c
 have h1:=World.ownsMap_of_fit (R:=qW) s F l;rw[<- g]at h1;exact h1.mono m
theorem a3e(a b g ns:Nat)(Dd:DataW Value)(f:List (ByteArray×Value))(w:World)(hd:w.ownsMap prog 9 Oa a g Dd)(u:w.ownsMap prog 9 Oa b ns (mapD f))(hf:∀p∈f,∃q,p.2=tZ q)(Q:a≠b)(hroom:g+Maps.size (mapD f)<=maxLen):
 Calls prog 243 #[.map (some a),.map (some b)] w λe w'=>e=.returned (.tuple #[])/\w'.ownsMap prog 9 Oa a (g+Maps.size (mapD f)) (Lib.mergeD Dd (mapD f))/\w.grownBy w' (some a):=by
 have n:=FQ u hf;generalize mapD f=d at*;have hbd:=hd.lt;have hbs:=n.lt
 go_in
 go_wp2_with(first
  | (at_range;refine wpList_range_own _ rfl _ 272 rfl 9 280 Gx underlying272 qW b ns _ rfl n ?_;intro w0 L E u)
  | go_in)
 go_frame
 go_loopw[8] (λ_ wr=>∃(m:Lit->Bool)(k:Nat)(s:DataW Value),wr.ranges prog 9 qW b w.heap.size ns d m k/\k<=Maps.size d/\
  wr.ownsMap prog 9 Oa a (g+(Maps.size d-k)) s/\Merged s Dd d m/\w.grownBy wr (some a))
  (λ_ wr=>wr.rangeLeft b w.heap.size)
 case atStart=>
  exact⟨_,_,Dd,L,J9 _,(hd.kept E O4).mono O0,merged_start Dd d,E.but _⟩
 obtain⟨m,k,s,z,hcs,i,F,A⟩:=hrel
 go_wp2_with(first
  | (at_next;refine wpList_next_ranges _ rfl _ rfl 9 Gx qW id tZ (λkey _ _=>⟨key,rfl⟩) (λv _ h=>(BK h).1) b w.heap.size ns _ _ _ rfl z ?_ ?_)
  | go_in)
 ·intro V S;go_wp2
  go_end0
  subst V;have e:=merged_eq Gx.one F S (i.canon Gx) (hd.canonK Gx) (n.canonK Gx);subst e;exact⟨rfl,by simpa using i,A⟩
 intro x ca r cb kl l yp H X o hlx hv W K R D hs1 U;have t:=(BK hv).2;have P:=i.kept D (λe=>by have:=D_ e;omega);have C:=kJ H (.cells #[vS ca,vI r,vS cb] 280) none;have O:=U0 (P.alloc (.cells #[vS ca,vI r,vS cb] 280));have J:=U0 (K.kept C O4 O4);have I:Hid (Oa (.agg #[vS ca,vI r,vS cb])=some (l,[])):=by show Oa _=_;rw[show l=_ from U6 Prod.fst t];rfl
 simp only[tZ]at U o ⊢;clear t hv
 go_wp2_with(first
  | (at_mapUpdate;refine wpList_mapUpdate_own _ rfl _ _ _ 272 rfl 9 280 Gx underlying272 Oa a _ _ rfl O.out O0 _ _ _ rfl rfl o l [] I.out ?_;intro w2 N B;go_frame)
  | go_in)
 have y:=J.out.kept B (λe=>Q (D_ e).symm) (λe=>by have:=D_ e;omega);go_roundw
 ·exact⟨_,X,_,y,O0,N.mono O0,merged_step F i.isMap (Gx.key o) W,((A.andThen D (λj c=>.inl (by cases c;exact J9 _))).andThen C (λj c=>by cases c)).andThen B (λj c=>.inr c)⟩
 rw[y.left_eq,z.left_eq];exact R
open Go.RowKit
theorem a4C(n:Int)(w:World):
 Calls prog 410 #[.int .i64 n] w λe w'=>Ia (1<=n/\n<=200) e/\Bw w w':=by
 go_in
 go_wp2_with fail
 refine(a0G n _).mono ?_;rintro e w1⟨rfl,rfl⟩;go_wp2;go_ret;exact⟨⟨_,rfl,O4⟩,J4 _ _⟩
theorem xW(a b:BY)(w:World)(ha:a.size<=1048700)(hb:b.size<=1048700):
 Calls prog 188 #[.agg #[.string a,.string b]] w λe w'=>Ia (Y5 a.data.toList=true/\b.size<=300) e/\Bw w w':=by
 have c:∀o,Bw w (w.alloc o):=λo=>P6
 go_in
 go_wp2_with fail
 refine(c124 a _ ha).mono ?_;rintro e w1⟨rfl,rfl⟩;cases hn:Y5 a.data.toList
 ·have g:Hid (Ia (Y5 a.data.toList=true/\b.size<=300) (.returned (.bool false))):=Z5 (λh=>by rw[hn]at h;cases h.1);go_wp2;go_ret;exact⟨g.out,c _⟩
 by_cases d:b.size<=300
 ·have f:decide ((b.size:Int)<=300)=true:=X7;go_wp2;go_ret;exact⟨⟨true,rfl,⟨λ_=>⟨hn,d⟩,λ_=>rfl⟩⟩,c _⟩
 have f:decide ((b.size:Int)<=300)=false:=X7;go_wp2;go_ret;exact⟨⟨false,rfl,⟨(λh=>by cases h),λh=>absurd h.2 d⟩⟩,c _⟩
theorem XU(a b:BY)(w:World)(ha:a.size<=1048700)(hb:b.size<=1048700):
 Calls prog 207 #[.agg #[.string a,.string b]] w λe w'=>Ia (Y5 a.data.toList=true/\b.size<=300) e/\Bw w w':=by
 have c:∀o,Bw w (w.alloc o):=λo=>P6
 go_in
 go_wp2_with fail
 refine(EM a _ ha).mono ?_;rintro e w1⟨rfl,rfl⟩;cases hn:Y5 a.data.toList
 ·have g:Hid (Ia (Y5 a.data.toList=true/\b.size<=300) (.returned (.bool false))):=Z5 (λh=>by rw[hn]at h;cases h.1);go_wp2;go_ret;exact⟨g.out,c _⟩
 by_cases d:b.size<=300
 ·have f:decide ((b.size:Int)<=300)=true:=X7;go_wp2;go_ret;exact⟨⟨true,rfl,⟨λ_=>⟨hn,d⟩,λ_=>rfl⟩⟩,c _⟩
 have f:decide ((b.size:Int)<=300)=false:=X7;go_wp2;go_ret;exact⟨⟨false,rfl,⟨(λh=>by cases h),λh=>absurd h.2 d⟩⟩,c _⟩
theorem a4D(a b:BY)(w:World)(ha:a.size<=1048700)(d:b.size<=1048700):
 Calls prog 412 #[.agg #[.string a,.string b]] w λe w'=>Ia (Y5 a.data.toList=true/\b.size<=300) e/\Bw w w':=by
 have f:∀o,Bw w (w.alloc o):=λo=>P6
 go_in
 go_wp2_with fail
 refine(xW a b _ ha d).mono ?_;rintro e w1⟨⟨r,rfl,hr⟩,c⟩;go_wp2;go_ret;exact⟨⟨r,rfl,hr⟩,(f _).trans (c.mono O4)⟩
theorem a4y(a:BY)(w:World)(ha:a.size<=1048700):
 Calls prog 414 #[.string a] w λe w'=>Ia (Y5 a.data.toList=true) e/\Bw w w':=by
 go_in
 go_wp2_with fail
 refine(c124 a _ ha).mono ?_;rintro e w1⟨rfl,rfl⟩;go_wp2;go_ret;exact⟨⟨_,rfl,Iff.rfl⟩,J4 _ _⟩
theorem a3B(w:World):
 Calls prog 418 #[.agg #[]] w λe w'=>Ia True e/\Bw w w':=by
 have a:∀o,Bw w (w.alloc o):=λo=>P6
 go_in
 go_wp2;go_ret;exact⟨Jf trivial,by first|exact a _|exact J4 _ _⟩
theorem a2P(m:M3)(ls:List L4)(c:Int)(t:BY)(a:OA)(d:Nat)(w:World)(hm:m.le 1048576)(hl:ls.length<=1048576)(u:∀i,(ls.getD i l_).le 1048576)(ht:t.size<=1048576)(y:X6 w a ls):
 Calls prog 416 #[.agg #[.string m.nm,.string m.tl,.string m.ar,.slice a ls.length d,.int .i64 c,.string t]] w λe w'=>Ia (bg m ls c t) e/\Bw w w':=by
 have A:∀o,Bw w (w.alloc o):=λo=>P6
 go_in
 go_wp2_with fail
 refine(KT m _ ⟨Q8 hm.1 O0,Q8 hm.2.1 O0,Q8 hm.2.2 O0⟩).mono ?_;rintro e k⟨rfl,l⟩;have f:Below (w.heap.size+1) (w.alloc (.cells #[vS m.nm,vS m.tl,vS m.ar,vL a ls.length d,vI c,vS t] 292)) k:=Tq l;have q:=(I9 w [vS m.nm,vS m.tl,vS m.ar,vL a ls.length d,vI c,vS t] 292).below f O0;have j:=(A _).trans (f.mono O0);have s:w.heap.size<k.heap.size:=by have h:=f.size;simp at h;omega
 have k3:=q 3 _ rfl;clear l;cases hn:Xe m
 ·have b:Hid (Ia (bg m ls c t) (.returned (.bool false))):=Z5 (λh=>by have h1:=h.1;rw[hn]at h1;cases h1);go_wp2;go_ret;exact⟨b.out,j⟩
 go_wp2_with fail
 refine(JX a d ls _ hl u (Z4 y j)).mono ?_;rintro e w2⟨⟨r,rfl,hr⟩,g⟩;have n:=P5 j g;have p:=q.below g s;have k4:=p 4 _ rfl;have k5:=p 5 _ rfl;clear g;cases r
 ·have b:Hid (Ia (bg m ls c t) (.returned (.bool false))):=Z5 (λh=>absurd (hr.2 h.2.1) J6);clear hr;go_wp2;go_ret;exact⟨b.out,n⟩
 have v:=hr.1 rfl;clear hr
 go_wp2_with fail
 refine(wO c t _ O0).mono ?_;rintro e w3⟨rfl,x⟩;have z:=P5 n x;have b:Hid (Ia (bg m ls c t) (.returned (.bool (vr c t.data.toList)))):=⟨_,rfl,⟨λh=>⟨hn,v,h⟩,λh=>h.2.2⟩⟩;go_wp2;go_ret;exact⟨b.out,z⟩
theorem a2x(K:Nat)(hK1:1<=K)(hK2:K<=10)(s:BY)(w:World)(hs:s.size<=1048700):
 Calls prog 148 #[.string s,.int .i64 K] w λe w'=>(∃g y,e=.returned (.tuple #[.slice (some ⟨g,0,none⟩) K y,.string (Y2 (d_ s.data.toList K))])/\w.heap.size<=g/\qc w' g (H_ s.data.toList K))/\Bw w w':=by
 obtain⟨B,H,E,D,C⟩:=info_parts info9;have hlen:s.data.toList.length=s.size:=O4
 go_in
 go_wp2;go_loopw[0,6,7] (λL v i wr=>∃(m:Nat)(t:ByteArray)(ss:List (List UInt8)),m<=K/\i=.int .i64 m/\L=.string t/\wr.ownsRow w.heap.size 9 1 v m (ru ss)/\Hid (t=Y2 (d_ s.data.toList m)/\ss=H_ s.data.toList m)/\Below w.heap.size w wr/\w.heap.size+1<=wr.heap.size) (λ_ _ i _=>K-(RowKit.intOf i).toNat);exact⟨0,s,[],I4 _,rfl,rfl,Iu _ #[] 0 Y8 (I4 _) rfl,⟨rfl,rfl⟩,P6,O4⟩;obtain⟨m,t,ss,hm,rfl,rfl,a,hrel,o,hz⟩:=hrel;by_cases hlt:m<K
 ·obtain⟨hT,rfl⟩:=hrel.out;have hts:t.size<=1048700:=by rw[hT,Y4];have:=Qi s.data.toList m;omega
  have I:t.data.toList=d_ s.data.toList m:=by rw[hT];simp[Y2]
  have p:=U0 I;have a6j:t.data.toList.length=t.size:=O4;clear hT I;clear hrel;go_wp2;go_loop[8] (λn=>∃k:Nat,k<=t.size/\n=.int .i64 k/\Hid ((t.data.toList.take k).all (· !=32)=true)) (λn=>t.size-(RowKit.intOf n).toNat);exact⟨0,I4 _,rfl,rfl⟩;obtain⟨k,hk,rfl,ha⟩:=hrel;by_cases F:k<t.size
  ·have a6S:(k:Int)<(t.size:Int):=O0;by_cases b:t[k]=32
   ·have e1:((t[k].toNat:Int) !=32)=false:=by rw[b];rfl
    obtain⟨d,c⟩:=Pm (l:=t.data.toList) ha.out O0 (.inr (by simp[F];exact b));have z:Hid (t.extract 0 k=Y2 (O1 t.data.toList)):=yc (by rw[Ib,d];rfl);have A:Hid (t.extract (k+1) t.size=Y2 (Y1 t.data.toList)):=yc (by rw[Ib,c,p_ O0]);clear b d c
    go_wp2_with(at_builtin;refine wpList_append_own _ rfl _ _ 22 rfl w.heap.size 9 B (.string ⟨#[]⟩) 1 16 underlying22 H E D C rfl J6 _ _ _ rfl (a.alloc _) ⟨wr.heap.size,0,none⟩ 1 1 [_] rfl rfl (cell_one_new _ _ _) (by intro u f;simp at f;subst f;rfl) (by unfold maxLen;omega) O0 X7 ?_;intro v' J q h _)
    go_roundw
    ·have x:=(o.alloc o.size _).grown h X7 (λj r=>(a.lt j r).1);refine⟨m+1,_,H_ s.data.toList (m+1),O0,by go_num,rfl,?_,⟨by rw[A.out,p.out];rfl,rfl⟩,x,by have:=h.size;simp at this;omega⟩;rw[Yj,Zf,<- p.out,<- z.out];exact q
    exact P9
   have e1:((t[k].toNat:Int) !=32)=true:=by
    simp only[Qr];intro e;exact b (Zh.1 (by
     have:t[k].toNat=32:=O0;rw[this];rfl))
   have O:Hid ((t.data.toList.take (k+1)).all (· !=32)=true):=by
    rw[take_snoc t k F,Dp,ha.out];simp[Hid,b]
   clear b;go_wp2
   go_round
   exact⟨k+1,O0,by go_num,O⟩;exact P9
  obtain⟨d,c⟩:=Pm (l:=t.data.toList) ha.out O0 (.inl O0);have z:Hid (t.extract 0 k=Y2 (O1 t.data.toList)):=yc (by rw[Ib,d];rfl);have A:Hid (t.extract k t.size=Y2 (Y1 t.data.toList)):=yc (by rw[Ib,c,p_ O0,Yq O0,Yq O0]);clear d c
  go_wp2_with(at_builtin;refine wpList_append_own _ rfl _ _ 22 rfl w.heap.size 9 B (.string ⟨#[]⟩) 1 16 underlying22 H E D C rfl J6 _ _ _ rfl (a.alloc _) ⟨wr.heap.size,0,none⟩ 1 1 [_] rfl rfl (cell_one_new _ _ _) (by intro u f;simp at f;subst f;rfl) (by unfold maxLen;omega) O0 X7 ?_;intro v' J q h _)
  go_roundw
  ·have x:=(o.alloc o.size _).grown h X7 (λj r=>(a.lt j r).1);refine⟨m+1,_,H_ s.data.toList (m+1),O0,by go_num,rfl,?_,⟨by rw[A.out,p.out];rfl,rfl⟩,x,by have:=h.size;simp at this;omega⟩;rw[Yj,Zf,<- p.out,<- z.out];exact q
  exact P9
 obtain rfl:m=K:=O0;obtain⟨rfl,rfl⟩:=hrel.out;clear hrel;obtain⟨g,y,N⟩:=Ik a O0;subst N;go_wp2;go_ret2;exact⟨⟨g,y,rfl,(a.lt g rfl).1,Eh a (by simp[H_])⟩,o⟩
def InO(u:World)(g n m j:Nat)(ti:TypeId)(c:Nat):Prop:=∀i,i<n->∃ai ni ci,u.cell? ⟨g,i*m+j,none⟩=some (.slice ai ni ci)/\ni<=1048576/\Zz (g+1) u ai ti (ni*c)
def Ur{α:Type}(is:List α)(f:α->List Value)(z:List Value)(k:Nat):List Value:=(is.take k).flatMap f++zs z (is.length-k)
section
variable{α β:Type}{A A' b g n m j c k:Nat}{u w:World}{a:OA}{t ti:TypeId}{xs z:List Value}{v:Value}{f:α->List Value}{is:List α}{d:α}
theorem Zz.one(h:Zz A u a t (n*1))(h1:A'<=A):Zz A' u a t n:=by
 rw[Rz]at h;exact h.mono h1
theorem aT{L:World->Prop}(h:Kp b w (λu=>L u/\Zz A u a t m))(h1:A'<=A):Kp b w (λu=>L u/\Zz A' u a t m):=h.imp λu k=>⟨k.1,k.2.mono h1⟩
theorem VR{L:World->Prop}(h:Kp b w (λu=>L u/\Zz A u a t (n*1)))(h1:A'<=A):Kp b w (λu=>L u/\Zz A' u a t n):=h.imp λu k=>⟨k.1,k.2.one h1⟩
theorem a1E{L I:World->Prop}(h:Kp b w (λu=>L u/\Zz A u a t m/\I u))(h1:A'<=A):Kp b w (λu=>L u/\Zz A' u a t m/\I u):=h.imp λu k=>⟨k.1,k.2.1.mono h1,k.2.2⟩
theorem Xm{T e:TypeId}{a:Value}{by_:Nat}(j:prog.underlying T=some (.slice e))(l:(prog.info? e).map (λi=>(i.zero,i.size,i.bytes))=some (some a,m,by_))(g:a.cells=z.toArray)(hm:z.length=m)(o:by_<=1000)(k:n<=1048576)(u:World):
 (Instr.makeSlice T (.int .i64 (n:Int)) (.int .i64 (n:Int))).run prog u=.ok (.slice (some ⟨u.heap.size,0,none⟩) n n) (u.alloc (.cells (zs z n).toArray e)):=by
 obtain⟨b,h0,f,d,c⟩:=info_parts l;have:by_*n<=1000*1048576:=Nat.mul_le_mul o k;have h:=run_make (P:=prog) u T e b a j h0 f .i64 .i64 (n:Int) (n:Int) O0 (Int.le_refl _) (by rw[c,<- Int.natCast_mul];omega) O0;rw[<- YJ];simpa[d,g,hm]using h
theorem qj(hf:∀x,(f x).length=m)(a:z.length=m)(b:k<is.length):k*m+(f (is.getD k d)).length<=(Ur is f z k).length/\Ap (Ur is f z k) (k*m) (f (is.getD k d))=Ur is f z (k+1):=by
 have c:((is.take k).flatMap f).length=k*z.length:=by rw[uh hf,L_,Oq O0,a]
 have h1:=GI (vs:=f (is.getD k d)) c ((hf _).trans a.symm) b;have h2:=EI (vs:=f (is.getD k d)) c ((hf _).trans a.symm) b;rw[a]at h1 h2;exact⟨h1,h2.trans (by unfold Ur;rw[xI (d:=d) b])⟩
theorem WJ{l:List Value}(a:k<l.length):l.set k v=Ap l k [v]:=by
 unfold Ap;rw[List.set_eq_take_append_cons_drop,D8 a];simp
theorem yj{LS:World->OA->List α->Prop}(hf:∀x,(f x).length=m)(k:∀u a is,Kv u a is d m (λw b o x=>Bc w b o (f x))->LS u a is)(h:Cl w g t (Ur is f z is.length)):Gq g w LS t m is (.slice (some ⟨g,0,none⟩) is.length is.length):=by
 unfold Ur at h;rw[qp,Hu]at h;have hl:=uh hf is;exact⟨_,_,rfl,Y8,(a1j h Y8).imp (λu c=>⟨k _ _ _ (.inr ⟨g,0,rfl,c.lt,λi j=>AQ c (λq v e=>by
  have:q<m:=by have:=(Rl.1 e).1;rwa[hf]at this
  have:i*m+m<=is.length*m:=by rw[<- Xn];exact wE _ j
  rw[l7,R_ O0];exact Aq hf is i j q v e)⟩),g,_,rfl,Y8,c,by rw[L9];omega⟩)⟩
def XZ(b:Nat)(w:World)(LS:World->OA->List α->Prop)(t:TypeId)(m j:Nat)(ti:TypeId)(c:Nat)(is:List α)(v:Value):Prop:=∃g cp,v=.slice (some ⟨g,0,none⟩) is.length cp/\Kp b w (λu=>LS u (some ⟨g,0,none⟩) is/\Zz b u (some ⟨g,0,none⟩) t (is.length*m)/\InO u g is.length m j ti c)
theorem aK{f:α×Value->List Value}{ps:List (α×Value)}(hf:∀x,(f x).length=m)(a:z.length=m)(e:ps.map Prod.fst=is.take k)(b:k<is.length)(v:Value):
 (ps++[(is.getD k d,v)]).map Prod.fst=is.take (k+1)/\k*m+(f (is.getD k d,v)).length<=(ps.flatMap f++zs z (is.length-k)).length/\Ap (ps.flatMap f++zs z (is.length-k)) (k*m) (f (is.getD k d,v))=(ps++[(is.getD k d,v)]).flatMap f++zs z (is.length-(k+1)):=by
 have hl:ps.length=k:=by have:=U6 List.length e;simp at this;omega
 have c:(ps.flatMap f).length=k*z.length:=by rw[uh hf,hl,a]
 have h1:=GI (vs:=f (is.getD k d,v)) c ((hf _).trans a.symm) b;have h2:=EI (vs:=f (is.getD k d,v)) c ((hf _).trans a.symm) b;rw[a]at h1 h2;refine⟨?_,h1,h2.trans (by rw[Vq,List.flatMap_singleton])⟩;rw[Gl,e,Rq,D9 b];simp[List.getD,D9 b]
theorem kL{LS:World->OA->List β->Prop}{RS:World->OA->List α->Prop}{b:α->List β}{f:α×Value->List Value}{ps:List (α×Value)}(hf:∀x,(f x).length=m)(C:∀p,(f p)[j]?=some p.2)(B:∀i,(b (is.getD i d)).length<=1048576)
 (hR:∀u g,g<u.heap.size->(∀i,i<is.length->∃a k,Bc u g (0+i*m) (f (is.getD i d,.slice a (b (is.getD i d)).length k))/\LS u a (b (is.getD i d)))->RS u (some ⟨g,0,none⟩) is)
 (o:ps.map Prod.fst=is.take is.length) (h:Cl w g t (ps.flatMap f++zs z (is.length-is.length))) (F:∀p∈ps,Gq (g+1) w LS ti c (b p.1) p.2):XZ g w RS t m j ti c is (.slice (some ⟨g,0,none⟩) is.length is.length):=by
 rw[qp]at o;have hl:ps.length=is.length:=by have:=U6 List.length o;simpa using this
 have D:Kp g w (λu=>Cl u g t (ps.flatMap f++zs z (is.length-is.length))/\∀i,i<is.length->∃a k,Bc u g (0+i*m) (f (is.getD i d,vL a (b (is.getD i d)).length k))/\LS u a (b (is.getD i d))/\Zz (g+1) u a ti ((b (is.getD i d)).length*c)):=λu h1 h2=>by
  have e:=(h2 g Y8 h.lt).trans h;refine⟨e,λi l=>?_⟩;obtain⟨v,hv,hB⟩:=VW (d:=d) hf e (i:=i) O0;rw[o]at hv hB;obtain⟨I,H,s,_,r⟩:=F _ hv;dsimp only at s r;subst s;have E:=r u h1 (λq hq=>h2 q O0);exact⟨I,H,hB,E⟩
 refine⟨g,_,rfl,D.imp λu e=>⟨hR u g e.1.lt (λi l=>?_),⟨g,_,rfl,Y8,e.1,?_⟩,λi l=>?_⟩⟩
 ·obtain⟨a,k,n,A,_⟩:=e.2 i l;exact⟨a,k,n,A⟩
 ·rw[L9,uh hf,hl];omega
 obtain⟨a,k,n,_,y⟩:=e.2 i l;exact⟨a,_,k,by have:=n j _ (C _);rwa[l7]at this,B i,y⟩
