import Derived.Test.YtbgdfcmeheaiiaaGreatDoorvF
import Derived.Test.YtbgdfcmeheaiiaaGreatDooryF
import Derived.Test.YtbgdfcmeheaiiaaGreatDoorqB
set_option linter.unusedVariables false
set_option linter.unusedSimpArgs false
set_option maxHeartbeats 8000000
set_option maxRecDepth 100000
namespace Go.Proofs.YtbgdfcmeheaiiaaGreatDoor
open Proofs.Tryz Go.RowKit
def PV:List Value->Nat->List Value->List Value
 | xs,_,[]=>xs
 | xs,j,v::vs=>PV (xs.set j v) (j+1) vs
theorem Cl.NY{B:Nat}{t:TypeId}:∀(vs:List Value){w:World}{xs:List Value}{j:Nat},Cl w B t xs->Cl (fill w B j vs) B t (PV xs j vs)
 | [],_,_,_,h=>h
 | v::vs,_,_,j,h=>Cl.NY vs (h.set j v)
section
variable{P:Program}{ops:Array Oper}{Q:Exit->Act->World->Prop}{rest:List Oper}{o:Oper}{a:Act}{w V:World}{ta tr:TypeId}{ar zs xs:List Value}{R:World->Prop}
theorem x9(H:TB w ta tr ar zs xs R V)(g:o.guard=none)(ty:TypeId)(x y:Operand)(ho:o.op=.store ty x y){j:Nat}{xs':List Value}(v:Value)(hx:a.eval x=.pointer (some ⟨w.heap.size+1+1,j,none⟩))(c:a.eval y=v)(hv:v.oneCell'=true)(e:j<xs.length)(f:(P.info? ty).map (·.size)=some 1)
 (h:∀b,Hid (TB w ta tr ar zs xs' R b)->wpList P ops Q rest (a.put o.dst undef) b) (d:xs.set j v=xs':=by simp only[List.set_cons_zero,List.set_cons_succ]<;>rfl):wpList P ops Q (o::rest) a V:=by
 subst c d;exact DF g (AA ty x y ho hx hv ⟨xs[j],by rw[H.co.cell,D9 e]⟩ (H.co.opn j) f) (h _ (H.put j _))
theorem Wj(H:TB w ta tr ar zs xs R V)(f:o.guard=none)(ty:TypeId)(x y:Operand)(ho:o.op=.store ty x y){j:Nat}{xs':List Value}(vs:List Value)(hx:a.eval x=.pointer (some ⟨w.heap.size+1+1,j,none⟩))(c:a.eval y=.agg vs.toArray)(hl:j+vs.length<=xs.length)(hv:vs.all Value.oneCell'=true)(e:(P.info? ty).map (·.size)=some vs.length)
 (g:∀b,Hid (TB w ta tr ar zs xs' R b)->wpList P ops Q rest (a.put o.dst undef) b) (d:PV xs j vs=xs':=by simp only[PV,List.set_cons_zero,List.set_cons_succ]<;>rfl):wpList P ops Q (o::rest) a V:=by
 subst d;exact DF f (zI ty x y ho hx c H.co hl (A8 hv) e) (g _ (H.on (KE _ _ _ _) (Cl.NY vs H.co)))
theorem Bj(H:TB w ta tr ar zs xs R V)(f:o.guard=none)(ty:TypeId)(x:Operand)(ho:o.op=.load ty x)(cs:List Value){d:TypeDesc}(hx:a.eval x=.pointer (some ⟨w.heap.size+1+1,0,none⟩))(hc:xs=cs)(b:P.underlying ty=some d)(hd:(match d with | .struct _ | .array _ _=>true|_=>false)=true)(c:(P.info? ty).map (·.size)=some cs.length)(g:wpList P ops Q rest (a.put o.dst (.agg cs.toArray)) V):wpList P ops Q (o::rest) a V:=by
 subst hc;exact b_ f (I7 ty x ho hx (λq v e=>by rw[l7];exact(H.co.cell q).trans e) b hd c) g
theorem Ui(H:TB w ta tr ar zs xs R V)(g:o.guard=none)(ty:TypeId)(x y:Operand)(ho:o.op=.store ty x y)(vs:List Value)(hx:a.eval x=.pointer (some ⟨w.heap.size+1,0,none⟩))(d:a.eval y=.agg vs.toArray)(hl:vs.length=zs.length)(hv:vs.all Value.oneCell'=true)(f:(P.info? ty).map (·.size)=some vs.length)
 (h:∀z,E5 z (w.heap.size+1) vs->Kp w.heap.size z R->Bw w z->wpList P ops Q rest (a.put o.dst undef) z):wpList P ops Q (o::rest) a V:=
 N8 g ty x y ho hx d H.cr O0 (A8 hv) f (λz c b=>h z (by
  have e:Ap zs 0 vs=vs:=by unfold Ap;rw[Nat.zero_add,hl];simp
  rw[e]at c;exact c.blk) (H.end_ b).1 (H.end_ b).2)
end
theorem a3q(x:Jb)(w:World):
 Calls prog 108 #[.agg #[.string x.nm,.int .i64 x.wk,.int .i64 x.un]] w λe w'=>e=.returned (.agg #[.string x.nm,.int .i64 x.wk,.int .i64 x.un])/\Bw w w':=by
 go_in
 go_wp2;refine o7 (v:=.agg #[.string x.nm,.int .i64 x.wk,.int .i64 x.un]) (by simp[results,results108,go_sem]) rfl ⟨rfl,?_⟩;exact((P6.alloc O4 _).alloc X7 _)
theorem c56(a:OA)(u:Nat)(is:List Jb)(w:World)(hl:is.length<=1048576)(q:Jl w a is):
 Calls prog 56 #[.slice a is.length u] w λe w'=>(∃v,e=.returned v/\Gq w.heap.size w' Jl 183 3 is v)/\Bw w w':=by
 obtain⟨b,off,hc⟩:=J8 q;have A:=U0 hc;clear hc q;have hmk:=Xm (z:=[.string ⟨#[]⟩,.int .i64 0,.int .i64 0]) underlying51 (show(prog.info? 183).map (λi=>(i.zero,i.size,i.bytes))=some (some (.agg #[.string ⟨#[]⟩,.int .i64 0,.int .i64 0]),3,32) from Y0) rfl rfl J6 hl
 go_in
 go_wp2;go_loopw[4] (λi wr=>∃(k:Nat),k<=is.length/\i=.int .i64 k/\Below w.heap.size w wr/\Hid (Cl wr w.heap.size 183 (Ur is IU [.string ⟨#[]⟩,.int .i64 0,.int .i64 0] k))) (λi _=>is.length-(RowKit.intOf i).toNat);exact⟨0,I4 _,rfl,P6,U3 _ _ _⟩;obtain⟨k,hk,rfl,g,hc⟩:=hrel;by_cases c:k<is.length;rotate_left
 ·obtain rfl:k=is.length:=O0;have hd:Hid (Gq w.heap.size wr Jl 183 3 is _):=yj (d:=Zd) (λ_=>rfl) (λ_ _ _ h=>h) hc.out;go_wp2;go_ret;exact⟨⟨_,rfl,hd.out⟩,g⟩
 obtain⟨ha,s,o⟩:=Zb A.out c;subst ha;have C:=U0 ((o k c).below s g);have r:=U0 (qj (d:=Zd) (z:=[.string ⟨#[]⟩,.int .i64 0,.int .i64 0]) (f:=IU) (m:=3) (λ_=>rfl) rfl c);generalize is.getD k Zd=x at*;clear o
 go_wp2_with(refine b_ rfl (I7 161 _ rfl (B:=b) (j:=off+k*3) (cs:=IU x) rfl C.out underlying161 rfl Y0) ?_)
 refine(a3q x wr).mono ?_;rintro e w1⟨rfl,p⟩;have t:=P5 g p;have y:=U0 (hc.out.below p hc.out.lt)
 go_wp2_with(refine N8 rfl 183 _ _ rfl (B:=w.heap.size) (j:=k*3) rfl (vs:=IU x) rfl y.out r.out.1 (A8 rfl) Y0 ?_;intro z l n;rw[r.out.2]at l;have D:=U0 l;have bz:=t.trans (n.below Y8);clear l n)
 go_roundw;exact⟨k+1,O0,by go_num,bz,D⟩;exact P9
theorem c159(x:T.F2)(w:World):
 Calls prog 159 #[.agg #[.string x.nm,.string x.tx]] w λe w'=>e=.returned (.agg #[.string x.nm,.string x.tx])/\Bw w w':=by
 go_in
 go_wp2;refine o7 (v:=.agg #[.string x.nm,.string x.tx]) (by simp[results,results159,go_sem]) rfl ⟨rfl,?_⟩;exact((P6.alloc O4 _).alloc X7 _)
theorem c105(a:OA)(u:Nat)(is:List T.F2)(w:World)(hl:is.length<=1048576)(q:xM w a is):
 Calls prog 105 #[.slice a is.length u] w λe w'=>(∃v,e=.returned v/\Gq w.heap.size w' xM 166 2 is v)/\Bw w w':=by
 obtain⟨b,off,hc⟩:=J8 q;have A:=U0 hc;clear hc q;have hmk:=Xm (z:=[.string ⟨#[]⟩,.string ⟨#[]⟩]) underlying44 (show(prog.info? 166).map (λi=>(i.zero,i.size,i.bytes))=some (some (.agg #[.string ⟨#[]⟩,.string ⟨#[]⟩]),2,32) from Y0) rfl rfl J6 hl
 go_in
 go_wp2;go_loopw[4] (λi wr=>∃(k:Nat),k<=is.length/\i=.int .i64 k/\Below w.heap.size w wr/\Hid (Cl wr w.heap.size 166 (Ur is VZ [.string ⟨#[]⟩,.string ⟨#[]⟩] k))) (λi _=>is.length-(RowKit.intOf i).toNat);exact⟨0,I4 _,rfl,P6,U3 _ _ _⟩;obtain⟨k,hk,rfl,g,hc⟩:=hrel;by_cases c:k<is.length;rotate_left
 ·obtain rfl:k=is.length:=O0;have hd:Hid (Gq w.heap.size wr xM 166 2 is _):=yj (d:=T.P8) (λ_=>rfl) (λ_ _ _ h=>h) hc.out;go_wp2;go_ret;exact⟨⟨_,rfl,hd.out⟩,g⟩
 obtain⟨ha,s,o⟩:=Zb A.out c;subst ha;have C:=U0 ((o k c).below s g);have r:=U0 (qj (d:=T.P8) (z:=[.string ⟨#[]⟩,.string ⟨#[]⟩]) (f:=VZ) (m:=2) (λ_=>rfl) rfl c);generalize is.getD k T.P8=x at*;clear o
 go_wp2_with(refine b_ rfl (I7 231 _ rfl (B:=b) (j:=off+k*2) (cs:=VZ x) rfl C.out underlying231 rfl Y0) ?_)
 refine(c159 x wr).mono ?_;rintro e w1⟨rfl,p⟩;have t:=P5 g p;have y:=U0 (hc.out.below p hc.out.lt)
 go_wp2_with(refine N8 rfl 166 _ _ rfl (B:=w.heap.size) (j:=k*2) rfl (vs:=VZ x) rfl y.out r.out.1 (A8 rfl) Y0 ?_;intro z l n;rw[r.out.2]at l;have D:=U0 l;have bz:=t.trans (n.below Y8);clear l n)
 go_roundw;exact⟨k+1,O0,by go_num,bz,D⟩;exact P9
def rP(w:World)(a:OA)(is:List G3):Prop:=Kv w a is ah 3 λw b o x=>Bc w b o (UZ x)
theorem rX{w:World}{a:OA}{is:List G3}(h:W_ w a is):rP w a is:=by
 rcases h with h|⟨b,off,h1,h2,d⟩
 ·exact .inl h
 refine .inr ⟨b,off,h1,h2,λi c q v e=>?_⟩
 match q,e with
 | 0,e=>cases e;exact(d i c).1
 | 1,e=>cases e;exact(d i c).2.1
 | 2,e=>cases e;exact(d i c).2.2
theorem YU{w:World}{a:OA}{is:List G3}(h:rP w a is):W_ w a is:=by
 rcases h with h|⟨b,off,h1,h2,d⟩
 ·exact .inl h
 exact .inr ⟨b,off,h1,h2,λi c=>⟨d i c 0 _ rfl,d i c 1 _ rfl,d i c 2 _ rfl⟩⟩
theorem a2W(x:G3)(w:World):
 Calls prog 271 #[.agg #[.bool x.nm,.string x.tl,.string x.ar]] w λe w'=>e=.returned (.agg #[.bool x.nm,.string x.tl,.string x.ar])/\Bw w w':=by
 go_in
 go_wp2;refine o7 (v:=.agg #[.bool x.nm,.string x.tl,.string x.ar]) (by simp[results,results271,go_sem]) rfl ⟨rfl,?_⟩;exact((P6.alloc O4 _).alloc X7 _)
theorem c218(a:OA)(u:Nat)(is:List G3)(w:World)(hl:is.length<=1048576)(q:rP w a is):
 Calls prog 218 #[.slice a is.length u] w λe w'=>(∃v,e=.returned v/\Gq w.heap.size w' rP 256 3 is v)/\Bw w w':=by
 obtain⟨b,off,hc⟩:=J8 q;have A:=U0 hc;clear hc q;have hmk:=Xm (z:=[.bool false,.string ⟨#[]⟩,.string ⟨#[]⟩]) underlying174 (show(prog.info? 256).map (λi=>(i.zero,i.size,i.bytes))=some (some (.agg #[.bool false,.string ⟨#[]⟩,.string ⟨#[]⟩]),3,40) from Y0) rfl rfl J6 hl
 go_in
 go_wp2;go_loopw[4] (λi wr=>∃(k:Nat),k<=is.length/\i=.int .i64 k/\Below w.heap.size w wr/\Hid (Cl wr w.heap.size 256 (Ur is UZ [.bool false,.string ⟨#[]⟩,.string ⟨#[]⟩] k))) (λi _=>is.length-(RowKit.intOf i).toNat);exact⟨0,I4 _,rfl,P6,U3 _ _ _⟩;obtain⟨k,hk,rfl,g,hc⟩:=hrel;by_cases c:k<is.length;rotate_left
 ·obtain rfl:k=is.length:=O0;have hd:Hid (Gq w.heap.size wr rP 256 3 is _):=yj (d:=ah) (λ_=>rfl) (λ_ _ _ h=>h) hc.out;go_wp2;go_ret;exact⟨⟨_,rfl,hd.out⟩,g⟩
 obtain⟨ha,s,o⟩:=Zb A.out c;subst ha;have C:=U0 ((o k c).below s g);have r:=U0 (qj (d:=ah) (z:=[.bool false,.string ⟨#[]⟩,.string ⟨#[]⟩]) (f:=UZ) (m:=3) (λ_=>rfl) rfl c);generalize is.getD k ah=x at*;clear o
 go_wp2_with(refine b_ rfl (I7 396 _ rfl (B:=b) (j:=off+k*3) (cs:=UZ x) rfl C.out underlying396 rfl Y0) ?_)
 refine(a2W x wr).mono ?_;rintro e w1⟨rfl,p⟩;have t:=P5 g p;have y:=U0 (hc.out.below p hc.out.lt)
 go_wp2_with(refine N8 rfl 256 _ _ rfl (B:=w.heap.size) (j:=k*3) rfl (vs:=UZ x) rfl y.out r.out.1 (A8 rfl) Y0 ?_;intro z l n;rw[r.out.2]at l;have D:=U0 l;have bz:=t.trans (n.below Y8);clear l n)
 go_roundw;exact⟨k+1,O0,by go_num,bz,D⟩;exact P9
def nT(w:World)(a:OA)(is:List L4):Prop:=Kv w a is l_ 4 λw b o x=>Bc w b o (lkE x)
theorem XE{w:World}{a:OA}{is:List L4}(h:X6 w a is):nT w a is:=by
 rcases h with h|⟨b,off,h1,h2,d⟩
 ·exact .inl h
 refine .inr ⟨b,off,h1,h2,λi c q v e=>?_⟩
 match q,e with
 | 0,e=>cases e;exact(d i c).1
 | 1,e=>cases e;exact(d i c).2.1
 | 2,e=>cases e;exact(d i c).2.2.1
 | 3,e=>cases e;exact(d i c).2.2.2
theorem TD{w:World}{a:OA}{is:List L4}(h:nT w a is):X6 w a is:=by
 rcases h with h|⟨b,off,h1,h2,d⟩
 ·exact .inl h
 exact .inr ⟨b,off,h1,h2,λi c=>⟨d i c 0 _ rfl,d i c 1 _ rfl,d i c 2 _ rfl,d i c 3 _ rfl⟩⟩
theorem lT(cd:Int)(tx:BY)(w:World):
 Calls prog 110 #[.agg #[.int .i64 cd,.string tx]] w λe w'=>e=.returned (.agg #[.int .i64 cd,.string tx])/\Bw w w':=by
 go_in
 go_wp2;refine o7 (v:=.agg #[.int .i64 cd,.string tx]) (by simp[results,results110,go_sem]) rfl ⟨rfl,?_⟩;exact((P6.alloc O4 _).alloc X7 _)
theorem a3g(x:L4)(w:World):
 Calls prog 219 #[.agg #[.bool x.has,.string x.nm,.int .i64 x.cd,.string x.tx]] w λe w'=>e=.returned (.agg #[.bool x.has,.string x.nm,.int .i64 x.cd,.string x.tx])/\Bw w w':=by
 go_in
 go_upto_region 2 with fail
 have H:=U0 (Za (w:=w) (ta:=330) (tr:=201) (ar:=[.bool x.has,.string x.nm,.int .i64 x.cd,.string x.tx]) (zs:=[.bool false,.string ⟨#[]⟩,.int .i64 0,.string ⟨#[]⟩]));generalize ((w.alloc (.cells #[.bool x.has,.string x.nm,.int .i64 x.cd,.string x.tx] 330)).alloc (.cells #[.bool false,.string ⟨#[]⟩,.int .i64 0,.string ⟨#[]⟩] 201)).alloc (.cells #[.bool false,.string ⟨#[]⟩,.int .i64 0,.string ⟨#[]⟩] 201)=V at*
 go_wp2_with(first|(refine O8 H.out.ca rfl 102 _ rfl (j:=2) [.int .i64 x.cd,.string x.tx] rfl rfl underlying102 rfl Y0 ?_)|(refine G5 H.out.ca rfl _ _ rfl rfl rfl Y0 ?_)|(refine x9 H.out rfl 4 _ _ rfl (j:=0) (.bool x.has) rfl rfl rfl (X9 rfl) Y0 ?_;clear H;intro V H)|(refine x9 H.out rfl 9 _ _ rfl (j:=1) (.string x.nm) rfl rfl rfl (X9 rfl) Y0 ?_;clear H;intro V H))
 refine(lT x.cd x.tx V).mono ?_;rintro e V1⟨rfl,a⟩
 replace H:=U0 (H.out.call a (Q:=λ_=>True) (λ_ _ _=>trivial))
 go_wp2_with(first|(refine G5 H.out.ca rfl _ _ rfl rfl rfl Y0 ?_)|(refine Wj H.out rfl 71 _ _ rfl (j:=2) [.int .i64 x.cd,.string x.tx] rfl rfl (X9 rfl) rfl Y0 ?_;clear H;intro V H)|(refine Bj H.out rfl 201 _ rfl [.bool x.has,.string x.nm,.int .i64 x.cd,.string x.tx] rfl rfl underlying201 rfl Y0 ?_)|(refine Ui H.out rfl 201 _ _ rfl [.bool x.has,.string x.nm,.int .i64 x.cd,.string x.tx] rfl rfl rfl rfl Y0 ?_;clear H;intro z b hk a))
 exact o7 (I8 (P:=prog) (ty:=201) rfl _ z (w.heap.size+1) [.bool x.has,.string x.nm,.int .i64 x.cd,.string x.tx] _ rfl b underlying201 rfl Y0) rfl ⟨rfl,a⟩
theorem a0q(a:OA)(u:Nat)(is:List L4)(w:World)(hl:is.length<=1048576)(q:nT w a is):
 Calls prog 161 #[.slice a is.length u] w λe w'=>(∃v,e=.returned v/\Gq w.heap.size w' nT 201 4 is v)/\Bw w w':=by
 obtain⟨b,off,hc⟩:=J8 q;have A:=U0 hc;clear hc q;have hmk:=Xm (z:=[.bool false,.string ⟨#[]⟩,.int .i64 0,.string ⟨#[]⟩]) underlying69 (show(prog.info? 201).map (λi=>(i.zero,i.size,i.bytes))=some (some (.agg #[.bool false,.string ⟨#[]⟩,.int .i64 0,.string ⟨#[]⟩]),4,48) from Y0) rfl rfl J6 hl
 go_in
 go_wp2;go_loopw[4] (λi wr=>∃(k:Nat),k<=is.length/\i=.int .i64 k/\Below w.heap.size w wr/\Hid (Cl wr w.heap.size 201 (Ur is lkE [.bool false,.string ⟨#[]⟩,.int .i64 0,.string ⟨#[]⟩] k))) (λi _=>is.length-(RowKit.intOf i).toNat);exact⟨0,I4 _,rfl,P6,U3 _ _ _⟩;obtain⟨k,hk,rfl,g,hc⟩:=hrel;by_cases c:k<is.length;rotate_left
 ·obtain rfl:k=is.length:=O0;have hd:Hid (Gq w.heap.size wr nT 201 4 is _):=yj (d:=l_) (λ_=>rfl) (λ_ _ _ h=>h) hc.out;go_wp2;go_ret;exact⟨⟨_,rfl,hd.out⟩,g⟩
 obtain⟨ha,s,o⟩:=Zb A.out c;subst ha;have C:=U0 ((o k c).below s g);have r:=U0 (qj (d:=l_) (z:=[.bool false,.string ⟨#[]⟩,.int .i64 0,.string ⟨#[]⟩]) (f:=lkE) (m:=4) (λ_=>rfl) rfl c);generalize is.getD k l_=x at*;clear o
 go_wp2_with(refine b_ rfl (I7 330 _ rfl (B:=b) (j:=off+k*4) (cs:=lkE x) rfl C.out underlying330 rfl Y0) ?_)
 refine(a3g x wr).mono ?_;rintro e w1⟨rfl,p⟩;have t:=P5 g p;have y:=U0 (hc.out.below p hc.out.lt)
 go_wp2_with(refine N8 rfl 201 _ _ rfl (B:=w.heap.size) (j:=k*4) rfl (vs:=lkE x) rfl y.out r.out.1 (A8 rfl) Y0 ?_;intro z l n;rw[r.out.2]at l;have D:=U0 l;have bz:=t.trans (n.below Y8);clear l n)
 go_roundw;exact⟨k+1,O0,by go_num,bz,D⟩;exact P9
theorem a3U(a:OA)(A:Nat)(is:List Int)(w:World)(hl:is.length<=1048576)(q:Jg w a is):
 Calls prog 53 #[.slice a is.length A] w λe w'=>(∃v,e=.returned v/\Gq w.heap.size w' Jg 3 1 is v)/\Bw w w':=by
 obtain⟨b,off,hc⟩:=lg q;have B:=U0 hc;clear hc q;have hmk:=Xm (z:=[.int .i64 0]) underlying31 (show(prog.info? 3).map (λi=>(i.zero,i.size,i.bytes))=some (some (.int .i64 0),1,8) from Y0) rfl rfl J6 hl
 go_in
 go_wp2;go_loopw[4] (λi wr=>∃(k:Nat),k<=is.length/\i=.int .i64 k/\Below w.heap.size w wr/\Hid (Cl wr w.heap.size 3 (Ur is (λx=>[.int .i64 x]) [.int .i64 0] k))) (λi _=>is.length-(RowKit.intOf i).toNat);exact⟨0,I4 _,rfl,P6,U3 _ _ _⟩;obtain⟨k,hk,rfl,g,hc⟩:=hrel;by_cases c:k<is.length;rotate_left
 ·obtain rfl:k=is.length:=O0;have hd:Hid (Gq w.heap.size wr Jg 3 1 is _):=yj (d:=0) (λ_=>rfl) (λu a is h=>h.imp id λ⟨b,o,h1,h2,y⟩=>⟨b,o,h1,h2,λi s=>by have:=y i s 0 _ rfl;rwa[Rz]at this⟩) hc.out;go_wp2;go_ret;exact⟨⟨_,rfl,hd.out⟩,g⟩
 obtain⟨ha,t,n⟩:=Zb B.out c;subst ha;have g0:=(g.cell (by exact t)).trans (n k c);have j:=U0 (qj (d:=0) (z:=[.int .i64 0]) (f:=(λx=>[.int .i64 x])) (m:=1) (λ_=>rfl) rfl c);generalize is.getD k 0=x at*;clear n
 go_wp2_with(refine LC rfl 3 _ _ rfl (p:=k) rfl rfl Y0 hc.out (by have:=j.out.1;simp at this;omega) ?_;intro z r l;have C:Hid (Cl z w.heap.size 3 (Ur is (λx=>[.int .i64 x]) [.int .i64 0] (k+1))):=(by rw[<- j.out.2,Rz,<- WJ (by have:=j.out.1;simp at this;omega)];exact r.out);have bz:=g.trans (l.below Y8);clear r l)
 go_roundw;exact⟨k+1,O0,by go_num,bz,C⟩;exact P9
theorem iW(a:OA)(A:Nat)(is:LB)(w:World)(hl:is.length<=1048576)(q:o8 w a is):
 Calls prog 54 #[.slice a is.length A] w λe w'=>(∃v,e=.returned v/\Gq w.heap.size w' o8 9 1 is v)/\Bw w w':=by
 obtain⟨b,off,hc⟩:=O_ q;have B:=U0 hc;clear hc q;have hmk:=Xm (z:=[.string ⟨#[]⟩]) underlying22 (show(prog.info? 9).map (λi=>(i.zero,i.size,i.bytes))=some (some (.string ⟨#[]⟩),1,16) from Y0) rfl rfl J6 hl
 go_in
 go_wp2;go_loopw[4] (λi wr=>∃(k:Nat),k<=is.length/\i=.int .i64 k/\Below w.heap.size w wr/\Hid (Cl wr w.heap.size 9 (Ur is (λx=>[.string x]) [.string ⟨#[]⟩] k))) (λi _=>is.length-(RowKit.intOf i).toNat);exact⟨0,I4 _,rfl,P6,U3 _ _ _⟩;obtain⟨k,hk,rfl,g,hc⟩:=hrel;by_cases c:k<is.length;rotate_left
 ·obtain rfl:k=is.length:=O0;have hd:Hid (Gq w.heap.size wr o8 9 1 is _):=yj (d:=ByteArray.empty) (λ_=>rfl) (λu a is h=>h.imp id λ⟨b,o,h1,h2,y⟩=>⟨b,o,h1,h2,λi s=>by have:=y i s 0 _ rfl;rwa[Rz]at this⟩) hc.out;go_wp2;go_ret;exact⟨⟨_,rfl,hd.out⟩,g⟩
 obtain⟨ha,t,n⟩:=Zb B.out c;subst ha;have g0:=(g.cell (by exact t)).trans (n k c);have j:=U0 (qj (d:=ByteArray.empty) (z:=[.string ⟨#[]⟩]) (f:=(λx=>[.string x])) (m:=1) (λ_=>rfl) rfl c);generalize is.getD k ByteArray.empty=x at*;clear n
 go_wp2_with(refine LC rfl 9 _ _ rfl (p:=k) rfl rfl Y0 hc.out (by have:=j.out.1;simp at this;omega) ?_;intro z r l;have C:Hid (Cl z w.heap.size 9 (Ur is (λx=>[.string x]) [.string ⟨#[]⟩] (k+1))):=(by rw[<- j.out.2,Rz,<- WJ (by have:=j.out.1;simp at this;omega)];exact r.out);have bz:=g.trans (l.below Y8);clear r l)
 go_roundw;exact⟨k+1,O0,by go_num,bz,C⟩;exact P9
end Go.Proofs.YtbgdfcmeheaiiaaGreatDoor
namespace Go.Proofs.YtbgdfcmeheaiiaaGreatDoor
open Proofs.Tryz Go.RowKit
theorem c160(x:R3)(a:OA)(b:Nat)(w:World)(hl:x.gs.length<=1048576)(k:W_ w a x.gs):
 Calls prog 160 #[.agg #[.string x.key,.slice a x.gs.length b,.string x.out]] w λe w'=>(∃v,e=.returned (.agg #[.string x.key,v,.string x.out])/\Gq w.heap.size w' W_ 256 3 x.gs v)/\Bw w w':=by
 have m:=U0 k
 go_in
 go_upto_region 2 with fail
 have H:=U0 (Za (w:=w) (ta:=235) (tr:=176) (ar:=[.string x.key,.slice a x.gs.length b,.string x.out]) (zs:=[.string ⟨#[]⟩,.slice none 0 0,.string ⟨#[]⟩]));generalize ((w.alloc (.cells #[.string x.key,.slice a x.gs.length b,.string x.out] 235)).alloc (.cells #[.string ⟨#[]⟩,.slice none 0 0,.string ⟨#[]⟩] 176)).alloc (.cells #[.string ⟨#[]⟩,.slice none 0 0,.string ⟨#[]⟩] 176)=V at*
 go_wp2_with(first|(refine G5 H.out.ca rfl _ _ rfl rfl rfl Y0 ?_)|(refine x9 H.out rfl 9 _ _ rfl (j:=0) (.string x.key) rfl rfl rfl (X9 rfl) Y0 ?_;clear H;intro V H))
 refine(c218 a b x.gs V hl (rX (V8 m H.out.bel))).mono ?_;rintro e V1⟨⟨_,rfl,d,c,rfl,i,f⟩,g⟩
 replace H:=U0 (H.out.call g (aT f H.out.bel.size))
 go_wp2_with(first|(refine G5 H.out.ca rfl _ _ rfl rfl rfl Y0 ?_)|(refine x9 H.out rfl 174 _ _ rfl (j:=1) (.slice d x.gs.length c) rfl rfl rfl (X9 rfl) Y0 ?_;clear H;intro V H)|(refine x9 H.out rfl 9 _ _ rfl (j:=2) (.string x.out) rfl rfl rfl (X9 rfl) Y0 ?_;clear H;intro V H)|(refine Bj H.out rfl 176 _ rfl [.string x.key,.slice d x.gs.length c,.string x.out] rfl rfl underlying176 rfl Y0 ?_)|(refine Ui H.out rfl 176 _ _ rfl [.string x.key,.slice d x.gs.length c,.string x.out] rfl rfl rfl rfl Y0 ?_;clear H;intro z l f g))
 exact o7 (I8 (P:=prog) (ty:=176) rfl _ z (w.heap.size+1) [.string x.key,.slice d x.gs.length c,.string x.out] _ rfl l underlying176 rfl Y0) rfl ⟨⟨_,rfl,_,_,rfl,i,f.imp (λu h=>⟨YU h.2.1,h.2.2⟩)⟩,g⟩
theorem a3X(a:OA)(R:Nat)(is:List R3)(w:World)(hl:is.length<=1048576)(A:∀i,(R3.gs (is.getD i j_)).length<=1048576)(D:Eg w a is):
 Calls prog 106 #[.slice a is.length R] w λe w'=>(∃v,e=.returned v/\XZ w.heap.size w' Eg 176 3 1 256 3 is v)/\Bw w w':=by
 obtain⟨b,off,hc⟩:=Ue D;have W:=U0 hc;have F:=U0 A;clear hc D A;have hmk:=Xm (z:=[.string ⟨#[]⟩,.slice none 0 0,.string ⟨#[]⟩]) underlying47 (show(prog.info? 176).map (λi=>(i.zero,i.size,i.bytes))=some (some (.agg #[.string ⟨#[]⟩,.slice none 0 0,.string ⟨#[]⟩]),3,56) from Y0) rfl rfl J6 hl
 go_in
 go_wp2;go_loopw[4] (λi wr=>∃(k:Nat)(ps:List (R3×Value)),k<=is.length/\i=.int .i64 k/\Below w.heap.size w wr/\Hid (ps.map Prod.fst=is.take k)/\Hid (Cl wr w.heap.size 176 (ps.flatMap rcE++zs [.string ⟨#[]⟩,.slice none 0 0,.string ⟨#[]⟩] (is.length-k)))/\Hid (∀p∈ps,Gq (w.heap.size+1) wr W_ 256 3 (R3.gs p.1) p.2)) (λi _=>is.length-(RowKit.intOf i).toNat);exact⟨0,[],I4 _,rfl,P6,rfl,U3 _ _ _,λp c=>absurd c Vm⟩;obtain⟨k,ps,hk,rfl,q,c,hc,E⟩:=hrel;by_cases n:k<is.length;rotate_left
 ·obtain rfl:k=is.length:=O0;have hd:=U0 (kL (d:=j_) (f:=rcE) (m:=3) (j:=1) (RS:=Eg) (λ_=>rfl) (λ_=>rfl) F.out (λu g L h=>.inr ⟨g,0,rfl,L,λi K=>by obtain⟨t,s,hB,O⟩:=h i K;exact⟨t,s,hB 0 _ rfl,hB 1 _ rfl,hB 2 _ rfl,O⟩⟩) c.out hc.out E.out);go_wp2;go_ret;exact⟨⟨_,rfl,hd.out⟩,q⟩
 obtain⟨ha,N,C⟩:=Zb W.out n;subst ha;obtain⟨t,s,g0,g1,g2,Q⟩:=(C k n).below N q;have J:=F.out k;have y:=U0 (aK (d:=j_) (z:=[.string ⟨#[]⟩,.slice none 0 0,.string ⟨#[]⟩]) (f:=rcE) (m:=3) (λ_=>rfl) rfl c.out n);generalize is.getD k j_=x at*;clear C
 go_wp2_with fail
 refine(c160 x t s wr J Q).mono ?_;rintro e I⟨⟨v,rfl,hv⟩,o⟩;have P:=P5 q o;have V:=U0 (hc.out.below o hc.out.lt);have S:=U0 (hv.low (b':=w.heap.size+1) (by have:=hc.out.lt;omega));have U:Hid (∀p∈ps,Gq (w.heap.size+1) I W_ 256 3 (R3.gs p.1) p.2):=λp c=>(E p c).below o;have X:Hid (∀u∈rcE (x,v),u.oneCell'=true):=by
  obtain⟨_,_,rfl,_⟩:=hv;exact A8 rfl
 go_wp2_with(refine N8 rfl 176 _ _ rfl (B:=w.heap.size) (j:=k*3) rfl (vs:=rcE (x,v)) rfl V.out (y.out v).2.1 X.out Y0 ?_;intro z r l;rw[(y.out v).2.2]at r;have Y:=U0 r;have bz:=P.trans (l.below Y8);have H:=U0 l;clear r l)
 go_roundw
 ·refine⟨k+1,ps++[(x,v)],O0,by go_num,bz,(y.out v).1,Y,λp c=>?_⟩;rcases Cf.1 c with h|h
  ·exact(U p h).on H O0
  rw[jo.1 h];exact S.out.on H O0
 exact P9
def StO(A:Nat)(u:World)(a:OA)(g:Nat)(s:St):Prop:=Zz A u a 9 s.ts.length/\Zz A u (some ⟨g,0,none⟩) 176 (s.rs.length*3)/\InO u g s.rs.length 3 1 256 3
theorem c52(ta ra:OA)(tc rc:Nat)(s:St)(w:World)(o:s.le 1048576)(p:Ig w ta ra s):
 Calls prog 52 #[.agg #[.int .i64 s.wd,.slice ta s.ts.length tc,.slice ra s.rs.length rc]] w λe w'=>(∃a c g r,e=.returned (.agg #[.int .i64 s.wd,.slice a s.ts.length c,.slice (some ⟨g,0,none⟩) s.rs.length r])/\Kp w.heap.size w' λu=>Ig u a (some ⟨g,0,none⟩) s/\StO w.heap.size u a g s)/\Bw w w':=by
 have n:=U0 p;have m:=U0 o
 go_in
 go_upto_region 2 with fail
 have H:=U0 (Za (w:=w) (ta:=30) (tr:=49) (ar:=[.int .i64 s.wd,.slice ta s.ts.length tc,.slice ra s.rs.length rc]) (zs:=[.int .i64 0,.slice none 0 0,.slice none 0 0]));generalize ((w.alloc (.cells #[.int .i64 s.wd,.slice ta s.ts.length tc,.slice ra s.rs.length rc] 30)).alloc (.cells #[.int .i64 0,.slice none 0 0,.slice none 0 0] 49)).alloc (.cells #[.int .i64 0,.slice none 0 0,.slice none 0 0] 49)=V at*
 go_wp2_with(first|(refine G5 H.out.ca rfl _ _ rfl rfl rfl Y0 ?_)|(refine x9 H.out rfl 3 _ _ rfl (j:=0) (.int .i64 s.wd) rfl rfl rfl (X9 rfl) Y0 ?_;clear H;intro V H))
 refine(iW ta tc s.ts V m.out.1.1 (X5 n.out.1 H.out.bel)).mono ?_;rintro e V1⟨⟨_,rfl,l,f,rfl,_,b⟩,d⟩
 replace H:=U0 (H.out.call d (VR b H.out.bel.size))
 go_wp2_with(first|(refine G5 H.out.ca rfl _ _ rfl rfl rfl Y0 ?_)|(refine x9 H.out rfl 22 _ _ rfl (j:=1) (.slice l s.ts.length f) rfl rfl rfl (X9 rfl) Y0 ?_;clear H;intro V H))
 refine(a3X ra rc s.rs V m.out.2.1 (λi=>(m.out.2.2 i).2.1) (oh n.out.2 H.out.bel)).mono ?_;rintro e V1⟨⟨_,rfl,k,c2,rfl,b⟩,d⟩
 replace H:=U0 (H.out.call d (a1E b H.out.bel.size))
 go_wp2_with(first|(refine G5 H.out.ca rfl _ _ rfl rfl rfl Y0 ?_)|(refine x9 H.out rfl 47 _ _ rfl (j:=2) (.slice (some ⟨k,0,none⟩) s.rs.length c2) rfl rfl rfl (X9 rfl) Y0 ?_;clear H;intro V H)|(refine Bj H.out rfl 49 _ rfl [.int .i64 s.wd,.slice l s.ts.length f,.slice (some ⟨k,0,none⟩) s.rs.length c2] rfl rfl underlying49 rfl Y0 ?_)|(refine Ui H.out rfl 49 _ _ rfl [.int .i64 s.wd,.slice l s.ts.length f,.slice (some ⟨k,0,none⟩) s.rs.length c2] rfl rfl rfl rfl Y0 ?_;clear H;intro z q b d))
 exact o7 (I8 (P:=prog) (ty:=49) rfl _ z (w.heap.size+1) [.int .i64 s.wd,.slice l s.ts.length f,.slice (some ⟨k,0,none⟩) s.rs.length c2] _ rfl q underlying49 rfl Y0) rfl ⟨⟨_,_,_,_,rfl,b.imp (λu h=>⟨⟨h.1.2.1,h.2.1⟩,h.1.2.2,h.2.2.1,h.2.2.2⟩)⟩,d⟩
theorem c107(x:Rn)(b:OA)(c:Nat)(w:World)(hl:x.ls.length<=1048576)(k:X6 w b x.ls):
 Calls prog 107 #[.agg #[.string x.nm,.int .i64 x.md,.string x.wt,.slice b x.ls.length c,.int .i64 x.cd,.string x.tx]] w λe w'=>(∃v,e=.returned (.agg #[.string x.nm,.int .i64 x.md,.string x.wt,v,.int .i64 x.cd,.string x.tx])/\Gq w.heap.size w' X6 201 4 x.ls v)/\Bw w w':=by
 have m:=U0 k
 go_in
 go_upto_region 2 with fail
 have H:=U0 (Za (w:=w) (ta:=158) (tr:=178) (ar:=[.string x.nm,.int .i64 x.md,.string x.wt,.slice b x.ls.length c,.int .i64 x.cd,.string x.tx]) (zs:=[.string ⟨#[]⟩,.int .i64 0,.string ⟨#[]⟩,.slice none 0 0,.int .i64 0,.string ⟨#[]⟩]));generalize ((w.alloc (.cells #[.string x.nm,.int .i64 x.md,.string x.wt,.slice b x.ls.length c,.int .i64 x.cd,.string x.tx] 158)).alloc (.cells #[.string ⟨#[]⟩,.int .i64 0,.string ⟨#[]⟩,.slice none 0 0,.int .i64 0,.string ⟨#[]⟩] 178)).alloc (.cells #[.string ⟨#[]⟩,.int .i64 0,.string ⟨#[]⟩,.slice none 0 0,.int .i64 0,.string ⟨#[]⟩] 178)=V at*
 go_wp2_with(first|(refine G5 H.out.ca rfl _ _ rfl rfl rfl Y0 ?_)|(refine x9 H.out rfl 9 _ _ rfl (j:=0) (.string x.nm) rfl rfl rfl (X9 rfl) Y0 ?_;clear H;intro V H)|(refine x9 H.out rfl 3 _ _ rfl (j:=1) (.int .i64 x.md) rfl rfl rfl (X9 rfl) Y0 ?_;clear H;intro V H)|(refine x9 H.out rfl 9 _ _ rfl (j:=2) (.string x.wt) rfl rfl rfl (X9 rfl) Y0 ?_;clear H;intro V H))
 refine(a0q b c x.ls V hl (XE (Z4 m H.out.bel))).mono ?_;rintro e V1⟨⟨_,rfl,f,d,rfl,i,g⟩,a⟩
 replace H:=U0 (H.out.call a (aT g H.out.bel.size))
 go_wp2_with(first|(refine O8 H.out.ca rfl 102 _ rfl (j:=4) [.int .i64 x.cd,.string x.tx] rfl rfl underlying102 rfl Y0 ?_)|(refine G5 H.out.ca rfl _ _ rfl rfl rfl Y0 ?_)|(refine x9 H.out rfl 69 _ _ rfl (j:=3) (.slice f x.ls.length d) rfl rfl rfl (X9 rfl) Y0 ?_;clear H;intro V H))
 refine(lT x.cd x.tx V).mono ?_;rintro e V1⟨rfl,a⟩
 replace H:=U0 (H.out.call a (Q:=λ_=>True) (λ_ _ _=>trivial))
 go_wp2_with(first|(refine G5 H.out.ca rfl _ _ rfl rfl rfl Y0 ?_)|(refine Wj H.out rfl 71 _ _ rfl (j:=4) [.int .i64 x.cd,.string x.tx] rfl rfl (X9 rfl) rfl Y0 ?_;clear H;intro V H)|(refine Bj H.out rfl 178 _ rfl [.string x.nm,.int .i64 x.md,.string x.wt,.slice f x.ls.length d,.int .i64 x.cd,.string x.tx] rfl rfl underlying178 rfl Y0 ?_)|(refine Ui H.out rfl 178 _ _ rfl [.string x.nm,.int .i64 x.md,.string x.wt,.slice f x.ls.length d,.int .i64 x.cd,.string x.tx] rfl rfl rfl rfl Y0 ?_;clear H;intro z l g a))
 exact o7 (I8 (P:=prog) (ty:=178) rfl _ z (w.heap.size+1) [.string x.nm,.int .i64 x.md,.string x.wt,.slice f x.ls.length d,.int .i64 x.cd,.string x.tx] _ rfl l underlying178 rfl Y0) rfl ⟨⟨_,rfl,_,_,rfl,i,g.imp (λu h=>⟨TD h.1.2.1,h.1.2.2⟩)⟩,a⟩
theorem c55(a:OA)(S:Nat)(is:List Rn)(w:World)(hl:is.length<=1048576)(A:∀i,(Rn.ls (is.getD i Aa)).length<=1048576)(D:uj w a is):
 Calls prog 55 #[.slice a is.length S] w λe w'=>(∃v,e=.returned v/\XZ w.heap.size w' uj 178 6 3 201 4 is v)/\Bw w w':=by
 obtain⟨b,off,hc⟩:=J8 D;have X:=U0 hc;have H:=U0 A;clear hc D A;have hmk:=Xm (z:=[.string ⟨#[]⟩,.int .i64 0,.string ⟨#[]⟩,.slice none 0 0,.int .i64 0,.string ⟨#[]⟩]) underlying50 (show(prog.info? 178).map (λi=>(i.zero,i.size,i.bytes))=some (some (.agg #[.string ⟨#[]⟩,.int .i64 0,.string ⟨#[]⟩,.slice none 0 0,.int .i64 0,.string ⟨#[]⟩]),6,88) from Y0) rfl rfl J6 hl
 go_in
 go_wp2;go_loopw[4] (λi wr=>∃(k:Nat)(ps:List (Rn×Value)),k<=is.length/\i=.int .i64 k/\Below w.heap.size w wr/\Hid (ps.map Prod.fst=is.take k)/\Hid (Cl wr w.heap.size 178 (ps.flatMap YC++zs [.string ⟨#[]⟩,.int .i64 0,.string ⟨#[]⟩,.slice none 0 0,.int .i64 0,.string ⟨#[]⟩] (is.length-k)))/\Hid (∀p∈ps,Gq (w.heap.size+1) wr X6 201 4 (Rn.ls p.1) p.2)) (λi _=>is.length-(RowKit.intOf i).toNat);exact⟨0,[],I4 _,rfl,P6,rfl,U3 _ _ _,λp c=>absurd c Vm⟩;obtain⟨k,ps,hk,rfl,s,c,hc,E⟩:=hrel;by_cases q:k<is.length;rotate_left
 ·obtain rfl:k=is.length:=O0;have hd:=U0 (kL (d:=Aa) (f:=YC) (m:=6) (j:=3) (RS:=uj) (λ_=>rfl) (λ_=>rfl) H.out (λu g N h=>.inr ⟨g,0,rfl,N,λi L=>by obtain⟨n,l,hB,P⟩:=h i L;exact⟨n,l,hB,P⟩⟩) c.out hc.out E.out);go_wp2;go_ret;exact⟨⟨_,rfl,hd.out⟩,s⟩
 obtain⟨ha,O,C⟩:=Zb X.out q;subst ha;obtain⟨n,l,F,R⟩:=(C k q).below O s;have Z:=U0 F;clear F;have K:=H.out k;have y:=U0 (aK (d:=Aa) (z:=[.string ⟨#[]⟩,.int .i64 0,.string ⟨#[]⟩,.slice none 0 0,.int .i64 0,.string ⟨#[]⟩]) (f:=YC) (m:=6) (λ_=>rfl) rfl c.out q);generalize is.getD k Aa=x at*;clear C
 go_wp2_with(refine b_ rfl (I7 158 _ rfl (B:=b) (j:=off+k*6) (cs:=YC (x,.slice n x.ls.length l)) rfl Z.out underlying158 rfl Y0) ?_)
 refine(c107 x n l wr K R).mono ?_;rintro e J⟨⟨v,rfl,hv⟩,r⟩;have Q:=P5 s r;have W:=U0 (hc.out.below r hc.out.lt);have U:=U0 (hv.low (b':=w.heap.size+1) (by have:=hc.out.lt;omega));have V:Hid (∀p∈ps,Gq (w.heap.size+1) J X6 201 4 (Rn.ls p.1) p.2):=λp c=>(E p c).below r;have Y:Hid (∀u∈YC (x,v),u.oneCell'=true):=by
  obtain⟨_,_,rfl,_⟩:=hv;exact A8 rfl
 go_wp2_with(refine N8 rfl 178 _ _ rfl (B:=w.heap.size) (j:=k*6) rfl (vs:=YC (x,v)) rfl W.out (y.out v).2.1 Y.out Y0 ?_;intro z t o;rw[(y.out v).2.2]at t;have CZ:=U0 t;have bz:=Q.trans (o.below Y8);have I:=U0 o;clear t o)
 go_roundw
 ·refine⟨k+1,ps++[(x,v)],O0,by go_num,bz,(y.out v).1,CZ,λp c=>?_⟩;rcases Cf.1 c with h|h
  ·exact(V p h).on I O0
  rw[jo.1 h];exact U.out.on I O0
 exact P9
theorem c50(sa la:OA)(sc lc:Nat)(sf lo:LB)(w:World)(h1:sf.length<=1048576)(h2:lo.length<=1048576)(m:o8 w sa sf)(hl:o8 w la lo):
 Calls prog 50 #[.agg #[.slice sa sf.length sc,.slice la lo.length lc]] w λe w'=>(∃a c k l,e=.returned (.agg #[.slice a sf.length c,.slice k lo.length l])/\lo.length<=l/\Kp w.heap.size w' λu=>(o8 u a sf/\Zz w.heap.size u a 9 sf.length)/\o8 u k lo/\Zz w.heap.size u k 9 lo.length)/\Bw w w':=by
 have q:=U0 m;have p:=U0 hl
 go_in
 go_upto_region 2 with fail
 have H:=U0 (Za (w:=w) (ta:=24) (tr:=43) (ar:=[.slice sa sf.length sc,.slice la lo.length lc]) (zs:=[.slice none 0 0,.slice none 0 0]));generalize ((w.alloc (.cells #[.slice sa sf.length sc,.slice la lo.length lc] 24)).alloc (.cells #[.slice none 0 0,.slice none 0 0] 43)).alloc (.cells #[.slice none 0 0,.slice none 0 0] 43)=V at*
 go_wp2_with(first|(refine G5 H.out.ca rfl _ _ rfl rfl rfl Y0 ?_))
 refine(iW sa sc sf V h1 (X5 q H.out.bel)).mono ?_;rintro e V1⟨⟨_,rfl,i,f,rfl,_,b⟩,d⟩
 replace H:=U0 (H.out.call d (VR b H.out.bel.size))
 go_wp2_with(first|(refine G5 H.out.ca rfl _ _ rfl rfl rfl Y0 ?_)|(refine x9 H.out rfl 22 _ _ rfl (j:=0) (.slice i sf.length f) rfl rfl rfl (X9 rfl) Y0 ?_;clear H;intro V H))
 refine(iW la lc lo V h2 (X5 p H.out.bel)).mono ?_;rintro e V1⟨⟨_,rfl,g,c2,rfl,n,b⟩,d⟩
 replace H:=U0 (H.out.call d (VR b H.out.bel.size))
 go_wp2_with(first|(refine G5 H.out.ca rfl _ _ rfl rfl rfl Y0 ?_)|(refine x9 H.out rfl 22 _ _ rfl (j:=1) (.slice g lo.length c2) rfl rfl rfl (X9 rfl) Y0 ?_;clear H;intro V H)|(refine Bj H.out rfl 43 _ rfl [.slice i sf.length f,.slice g lo.length c2] rfl rfl underlying43 rfl Y0 ?_)|(refine Ui H.out rfl 43 _ _ rfl [.slice i sf.length f,.slice g lo.length c2] rfl rfl rfl rfl Y0 ?_;clear H;intro z o b d))
 exact o7 (I8 (P:=prog) (ty:=43) rfl _ z (w.heap.size+1) [.slice i sf.length f,.slice g lo.length c2] _ rfl o underlying43 rfl Y0) rfl ⟨⟨_,_,_,_,rfl,n,b.imp (λu h=>⟨h.1.2,h.2⟩)⟩,d⟩
theorem c51(a:OA)(b:Nat)(is:List T.F2)(w:World)(hl:is.length<=1048576)(k:T.U5 w a is):
 Calls prog 51 #[.agg #[.slice a is.length b]] w λe w'=>(∃a c,e=.returned (.agg #[.slice a is.length c])/\Kp w.heap.size w' λu=>T.U5 u a is/\Zz w.heap.size u a 166 (is.length*2))/\Bw w w':=by
 have m:=U0 k
 go_in
 go_upto_region 2 with fail
 have H:=U0 (Za (w:=w) (ta:=27) (tr:=46) (ar:=[.slice a is.length b]) (zs:=[.slice none 0 0]));generalize ((w.alloc (.cells #[.slice a is.length b] 27)).alloc (.cells #[.slice none 0 0] 46)).alloc (.cells #[.slice none 0 0] 46)=V at*
 go_wp2_with(first|(refine G5 H.out.ca rfl _ _ rfl rfl rfl Y0 ?_))
 refine(c105 a b is V hl (yY (T.X4 m H.out.bel))).mono ?_;rintro e V1⟨⟨_,rfl,f,d,rfl,hq,g⟩,i⟩
 replace H:=U0 (H.out.call i (aT g H.out.bel.size))
 go_wp2_with(first|(refine G5 H.out.ca rfl _ _ rfl rfl rfl Y0 ?_)|(refine x9 H.out rfl 44 _ _ rfl (j:=0) (.slice f is.length d) rfl rfl rfl (X9 rfl) Y0 ?_;clear H;intro V H)|(refine Bj H.out rfl 46 _ rfl [.slice f is.length d] rfl rfl underlying46 rfl Y0 ?_)|(refine Ui H.out rfl 46 _ _ rfl [.slice f is.length d] rfl rfl rfl rfl Y0 ?_;clear H;intro z l g i))
 exact o7 (I8 (P:=prog) (ty:=46) rfl _ z (w.heap.size+1) [.slice f is.length d] _ rfl l underlying46 rfl Y0) rfl ⟨⟨_,_,rfl,g.imp (λu h=>⟨a1a h.2.1,h.2.2⟩)⟩,i⟩
theorem c28(sa la:OA)(sc lc:Nat)(sf lo:LB)(l:Int)(w:World)(h0:0<=l)(h1:l<=1048576)(k:∀i,(sf.getD i ByteArray.empty).size<=9223372036854775807)(j:∀i,(lo.getD i ByteArray.empty).size<=9223372036854775807)(hl:sf.length<=9223372036854775807)(n:lo.length<=9223372036854775807)(s:o8 w sa sf)(p:o8 w la lo):
 Calls prog 28 #[.agg #[.slice sa sf.length sc,.slice la lo.length lc],.int .i64 l] w λe w'=>(∃r:Int,e=.returned (.int .i64 r)/\(0<=r->(∀i,(sf.getD i ByteArray.empty).size<=1048576)/\(∀i,(lo.getD i ByteArray.empty).size<=1048576)/\sf.length+lo.length<=1048576/\r<=l))/\Bw w w':=by
 have c:=U0 (P6 (w:=w) (o:=.cells #[vL sa sf.length sc,vL la lo.length lc] 24));have hc:=U0 (λr a b=>c32 la lc lo r _ a b j n (X5 p c));have hd:=c32 sa sc sf l _ h0 h1 k hl (X5 s c)
 go_in
 go_wp2_with fail
 refine hd.mono ?_;rintro e d⟨⟨r,rfl,hr⟩,rfl⟩;have u:=U0 hr;by_cases m:r<0
 ·go_wp2;go_ret;exact⟨⟨-1,rfl,λh=>O0⟩,c⟩
 obtain⟨p1,g,p3⟩:=u.out O0;have x:=U0 g;have hd:=hc.out r O0 O0
 go_wp2_with fail
 refine hd.mono ?_;rintro e d⟨⟨q,rfl,hr⟩,rfl⟩;have v:=U0 hr;by_cases m:q<0
 ·go_wp2;go_ret;exact⟨⟨-1,rfl,λh=>O0⟩,c⟩
 obtain⟨q1,f,q3⟩:=v.out O0;have t:=U0 f;go_wp2;go_ret;exact⟨⟨_,rfl,λh=>⟨x,t,O0,O0⟩⟩,c⟩
def Rn.le(x:Rn)(B:Nat):Prop:=x.nm.size<=B/\x.wt.size<=B/\(x.ls.length<=B/\∀i,(x.ls.getD i l_).le B)/\x.tx.size<=B
theorem c84(x:Rn)(a:OA)(b:Nat)(l:Int)(w:World)(h0:0<=l)(h1:l<=1048576)(v:x.le 9223372036854775807)(z:X6 w a x.ls):
 Calls prog 84 #[.agg #[.string x.nm,.int .i64 x.md,.string x.wt,.slice a x.ls.length b,.int .i64 x.cd,.string x.tx],.int .i64 l] w λe w'=>(∃r:Int,e=.returned (.int .i64 r)/\(0<=r->x.le 1048576/\r<=1048576))/\Bw w w':=by
 obtain⟨s1,s2,⟨s,p⟩,n⟩:=v;have f:=U0 (P6 (w:=w) (o:=.cells #[vS x.nm,vI x.md,vS x.wt,vL a x.ls.length b,vI x.cd,vS x.tx] 158));have c:=U0 (U3 w [vS x.nm,vI x.md,vS x.wt,vL a x.ls.length b,vI x.cd,vS x.tx] 158);have I:=U0 (Z4 z f);have E:=U0 p;have D:=c.out.cell 0;have a2:=c.out.cell 2;have C:=c.out.cell 3;simp only[gz]at D a2 C;by_cases h:l<x.nm.size
 ·go_in
  go_upto_region 1 with fail
  generalize w.alloc (.cells #[vS x.nm,vI x.md,vS x.wt,vL a x.ls.length b,vI x.cd,vS x.tx] 158)=V at*;go_wp2;go_ret;exact⟨⟨-1,rfl,λh=>O0⟩,f⟩
 by_cases h2:l-x.nm.size<x.wt.size
 ·go_in
  go_upto_region 1 with fail
  generalize w.alloc (.cells #[vS x.nm,vI x.md,vS x.wt,vL a x.ls.length b,vI x.cd,vS x.tx] 158)=V at*;go_wp2;go_ret;exact⟨⟨-1,rfl,λh=>O0⟩,f⟩
 go_in
 go_upto_region 1 with fail
 generalize w.alloc (.cells #[vS x.nm,vI x.md,vS x.wt,vL a x.ls.length b,vI x.cd,vS x.tx] 158)=V at*
 go_wp2_with fail
 refine(c143 a b x.ls (l-x.nm.size-x.wt.size) V O0 O0 E s I).mono ?_;rintro e m⟨⟨r,rfl,hr⟩,d⟩;have F:=U0 hr;have k:=U0 (P5 f d);have i:=U0 (c.out.below d c.out.lt);by_cases y:r<0
 ·go_wp2;go_ret;exact⟨⟨-1,rfl,λh=>O0⟩,k⟩
 obtain⟨u,t,p3⟩:=F.out O0;have H:=U0 t;have B:=i.out.cell 4;have A:=i.out.cell 5;simp only[gz]at B A
 go_wp2_with fail
 refine(c87 x.cd x.tx r m n O0 O0).mono ?_;rintro e w2⟨⟨q,rfl,hr⟩,d⟩;have g:=U0 hr;have j:=U0 (P5 k d);by_cases y:q<0
 ·go_wp2;go_ret;exact⟨⟨-1,rfl,λh=>O0⟩,j⟩
 go_wp2;go_ret;exact⟨⟨_,rfl,λh=>⟨⟨O0,O0,⟨u,H⟩,(g h).1⟩,by have:=(g.out h).2;omega⟩⟩,j⟩
theorem DZ(B:Nat):Aa.le B:=⟨I4 _,I4 _,⟨I4 _,λi=>⟨I4 _,I4 _⟩⟩,I4 _⟩
theorem UL(a:OA)(I:Nat)(is:List Rn)(l:Int)(w:World)(h0:0<=l)(h1:l<=1048576)(v:∀i,(is.getD i Aa).le 9223372036854775807)(hl:is.length<=9223372036854775807)(E:uj w a is):
 Calls prog 33 #[.slice a is.length I,.int .i64 l] w λe w'=>(∃r:Int,e=.returned (.int .i64 r)/\(0<=r->is.length<=1048576/\(∀i,(is.getD i Aa).le 1048576)/\r<=1048576))/\Bw w w':=by
 obtain⟨b,off,hc⟩:=J8 E;have L:=U0 hc;have K:=U0 v;by_cases hbig:l<is.length
 ·go_in
  go_wp2;go_ret;exact⟨⟨-1,rfl,λh=>O0⟩,J4 _ _⟩
 go_in
 go_wp2;go_loopw[1,5] (λt i wr=>∃(k:Nat)(r:Int),k<=is.length/\i=.int .i64 k/\t=.int .i64 r/\0<=r/\r<=1048576/\Hid (∀i,i<k->(is.getD i Aa).le 1048576)/\Below w.heap.size w wr) (λ_ i _=>is.length-(RowKit.intOf i).toNat);exact⟨0,_,I4 _,rfl,rfl,O0,O0,λi h=>absurd h (U7 _),J4 _ _⟩;obtain⟨k,r,hk,rfl,rfl,z,y,g,f⟩:=hrel;by_cases n:k<is.length;rotate_left
 ·have c:Hid (∀i,(is.getD i Aa).le 1048576):=U0 (Oz (is:=is) (d:=Aa) (R:=λx=>x.le 1048576) (DZ _) (λi h=>g.out i O0));go_wp2;go_ret;exact⟨⟨r,rfl,λ_=>⟨O0,c,y⟩⟩,f⟩
 obtain⟨ha,C,A⟩:=Zb L.out n;subst ha;obtain⟨q,p,H,F⟩:=(A k n).below C f;have N:=U0 H;have u:=K.out k;generalize hx:is.getD k Aa=x at*;have J:=U0 hx
 go_wp2_with(refine b_ rfl (I7 158 _ rfl (B:=b) (j:=off+k*6) (cs:=YC (x,vL q x.ls.length p)) rfl N.out underlying158 rfl Y0) ?_)
 refine(c84 x q p r wr z O0 u F).mono ?_;rintro e w1⟨⟨s,rfl,hr⟩,D⟩;have o:=P5 f D;by_cases hneg:s<0
 ·clear hr;go_wp2;go_ret;exact⟨⟨-1,rfl,λh=>O0⟩,o⟩
 have m:=hr O0;have c:Hid (∀i,i<k+1->(is.getD i Aa).le 1048576):=by
  intro i h;rcases P7 i k with h1|h1
  ·exact g i h1
  obtain rfl:i=k:=O0;rw[J.out];exact m.1
 have hr2:=m.2;go_wp2;go_roundw;exact⟨k+1,_,O0,by go_num,rfl,O0,O0,c,o⟩;exact P9
structure Bs where
 wd:Int
 up:Bool
 now:Int
 ep:Int
 ed:Int
 sf:LB
 lo:LB
 fs:List T.F2
 s:St
 hd:List Int
 rt:LB
 rn:List Rn
 jb:List Jb
structure Ba where
 sa:OA
 sc:Nat
 la:OA
 lc:Nat
 fa:OA
 fc:Nat
 ta:OA
 tc:Nat
 ra:OA
 rc:Nat
 ha:OA
 hc:Nat
 oa:OA
 oc:Nat
 na:OA
 nc:Nat
 ja:OA
 jc:Nat
@[go_sem] abbrev bsV(b:Bs)(q:Ba):List Value:=[.int .i64 b.wd,.bool b.up,.int .i64 b.now,.int .i64 b.ep,.int .i64 b.ed,.slice q.sa b.sf.length q.sc,.slice q.la b.lo.length q.lc,.slice q.fa b.fs.length q.fc,.int .i64 b.s.wd,.slice q.ta b.s.ts.length q.tc,.slice q.ra b.s.rs.length q.rc,.slice q.ha b.hd.length q.hc,.slice q.oa b.rt.length q.oc,.slice q.na b.rn.length q.nc,.slice q.ja b.jb.length q.jc]
structure Dn(w:World)(b:Bs)(q:Ba):Prop where
 sf:o8 w q.sa b.sf
 lo:o8 w q.la b.lo
 fs:T.U5 w q.fa b.fs
 st:Ig w q.ta q.ra b.s
 hd:Jg w q.ha b.hd
 rt:o8 w q.oa b.rt
 rn:uj w q.na b.rn
 jb:Jl w q.ja b.jb
theorem Dn.below{w w':World}{b:Bs}{q:Ba}(h:Dn w b q)(a:Bw w w'):Dn w' b q:=⟨X5 h.sf a,X5 h.lo a,T.X4 h.fs a,h.st.below a,zh h.hd a,X5 h.rt a,Ve h.rn a,Dl h.jb a⟩
def qO(b:Bs)(q:Ba):Prop:=b.rt.length<=q.oc/\b.jb.length<=q.jc/\b.lo.length<=q.lc
structure Bo(b:Bs)(B:Nat):Prop where
 sl:b.sf.length<=B
 ss:∀i,(b.sf.getD i ByteArray.empty).size<=B
 ll:b.lo.length<=B
 ls:∀i,(b.lo.getD i ByteArray.empty).size<=B
 fl:b.fs.length<=B
 fz:∀i,(b.fs.getD i T.P8).le B
 st:b.s.le B
 hl:b.hd.length<=B
 rl:b.rt.length<=B
 rs:∀i,(b.rt.getD i ByteArray.empty).size<=B
 nl:b.rn.length<=B
 ns:∀i,(b.rn.getD i Aa).le B
 jl:b.jb.length<=B
 js:∀i,(b.jb.getD i Zd).nm.size<=B
@[go_sem] abbrev bz:List Value:=[.int .i64 0,.bool false,.int .i64 0,.int .i64 0,.int .i64 0,.slice none 0 0,.slice none 0 0,.slice none 0 0,.int .i64 0,.slice none 0 0,.slice none 0 0,.slice none 0 0,.slice none 0 0,.slice none 0 0,.slice none 0 0]
theorem c16(b:Bs)(q:Ba)(w:World)(hl:Bo b 1048576)(J:Dn w b q):
 Calls prog 16 #[.agg (bsV b q).toArray] w λe w'=>(∃I,e=.returned (.agg (bsV b I).toArray)/\qO b I/\Kp w.heap.size w' (λu=>Dn u b I))/\Bw w w':=by
 have f:=U0 J;have d:=U0 hl;clear J hl
 go_in
 go_upto_region 2 with fail
 have H:=U0 (Za (w:=w) (ta:=35) (tr:=53) (ar:=bsV b q) (zs:=bz));generalize ((w.alloc (.cells (bsV b q).toArray 35)).alloc (.cells bz.toArray 53)).alloc (.cells bz.toArray 53)=V at*
 go_wp2_with(first|(refine O8 H.out.ca rfl 24 _ rfl (j:=5) [.slice q.sa b.sf.length q.sc,.slice q.la b.lo.length q.lc] rfl rfl underlying24 rfl Y0 ?_)|(refine G5 H.out.ca rfl _ _ rfl rfl rfl Y0 ?_)|(refine x9 H.out rfl 3 _ _ rfl (j:=0) (.int .i64 b.wd) rfl rfl rfl (X9 rfl) Y0 ?_;clear H;intro V H)|(refine x9 H.out rfl 4 _ _ rfl (j:=1) (.bool b.up) rfl rfl rfl (X9 rfl) Y0 ?_;clear H;intro V H)|(refine x9 H.out rfl 3 _ _ rfl (j:=2) (.int .i64 b.now) rfl rfl rfl (X9 rfl) Y0 ?_;clear H;intro V H)|(refine x9 H.out rfl 3 _ _ rfl (j:=3) (.int .i64 b.ep) rfl rfl rfl (X9 rfl) Y0 ?_;clear H;intro V H)|(refine x9 H.out rfl 3 _ _ rfl (j:=4) (.int .i64 b.ed) rfl rfl rfl (X9 rfl) Y0 ?_;clear H;intro V H))
 refine(c50 q.sa q.la q.sc q.lc b.sf b.lo V d.out.sl d.out.ll (X5 f.out.sf H.out.bel) (X5 f.out.lo H.out.bel)).mono ?_;rintro e V1⟨⟨m,A,l,y,rfl,N,a⟩,c⟩
 replace H:=U0 (H.out.call c (a.imp λu h=>(⟨⟨h.1.1,h.1.2.mono H.out.bel.size⟩,h.2.1,h.2.2.mono H.out.bel.size⟩:(o8 u m b.sf/\Zz w.heap.size u m 9 b.sf.length)/\o8 u l b.lo/\Zz w.heap.size u l 9 b.lo.length)))
 clear c a
 go_wp2_with(first|(refine O8 H.out.ca rfl 27 _ rfl (j:=7) [.slice q.fa b.fs.length q.fc] rfl rfl underlying27 rfl Y0 ?_)|(refine G5 H.out.ca rfl _ _ rfl rfl rfl Y0 ?_)|(refine Wj H.out rfl 43 _ _ rfl (j:=5) [.slice m b.sf.length A,.slice l b.lo.length y] rfl rfl (X9 rfl) rfl Y0 ?_;clear H;intro V H))
 refine(c51 q.fa q.fc b.fs V d.out.fl (T.X4 f.out.fs H.out.bel)).mono ?_;rintro e V1⟨⟨F,x,rfl,a⟩,c⟩
 replace H:=U0 (H.out.call c (aT a H.out.bel.size))
 clear c a
 go_wp2_with(first|(refine O8 H.out.ca rfl 30 _ rfl (j:=8) [.int .i64 b.s.wd,.slice q.ta b.s.ts.length q.tc,.slice q.ra b.s.rs.length q.rc] rfl rfl underlying30 rfl Y0 ?_)|(refine G5 H.out.ca rfl _ _ rfl rfl rfl Y0 ?_)|(refine Wj H.out rfl 46 _ _ rfl (j:=7) [.slice F b.fs.length x] rfl rfl (X9 rfl) rfl Y0 ?_;clear H;intro V H))
 refine(c52 q.ta q.ra q.tc q.rc b.s V d.out.st (f.out.st.below H.out.bel)).mono ?_;rintro e V1⟨⟨k,v,g,t,rfl,a⟩,c⟩
 replace H:=U0 (H.out.call c (a.imp λu h=>(⟨h.1,h.2.1.mono H.out.bel.size,h.2.2.1.mono H.out.bel.size,h.2.2.2⟩:Ig u k (some ⟨g,0,none⟩) b.s/\StO w.heap.size u k g b.s)))
 clear c a
 go_wp2_with(first|(refine G5 H.out.ca rfl _ _ rfl rfl rfl Y0 ?_)|(refine Wj H.out rfl 49 _ _ rfl (j:=8) [.int .i64 b.s.wd,.slice k b.s.ts.length v,.slice (some ⟨g,0,none⟩) b.s.rs.length t] rfl rfl (X9 rfl) rfl Y0 ?_;clear H;intro V H))
 refine(a3U q.ha q.hc b.hd V d.out.hl (zh f.out.hd H.out.bel)).mono ?_;rintro e V1⟨⟨_,rfl,E,r,rfl,_,a⟩,c⟩
 replace H:=U0 (H.out.call c (VR a H.out.bel.size))
 clear c a
 go_wp2_with(first|(refine G5 H.out.ca rfl _ _ rfl rfl rfl Y0 ?_)|(refine x9 H.out rfl 31 _ _ rfl (j:=11) (.slice E b.hd.length r) rfl rfl rfl (X9 rfl) Y0 ?_;clear H;intro V H))
 refine(iW q.oa q.oc b.rt V d.out.rl (X5 f.out.rt H.out.bel)).mono ?_;rintro e V1⟨⟨_,rfl,D,p,rfl,L,a⟩,c⟩
 replace H:=U0 (H.out.call c (VR a H.out.bel.size))
 clear c a
 go_wp2_with(first|(refine G5 H.out.ca rfl _ _ rfl rfl rfl Y0 ?_)|(refine x9 H.out rfl 22 _ _ rfl (j:=12) (.slice D b.rt.length p) rfl rfl rfl (X9 rfl) Y0 ?_;clear H;intro V H))
 refine(c55 q.na q.nc b.rn V d.out.nl (λi=>(d.out.ns i).2.2.1.1) (Ve f.out.rn H.out.bel)).mono ?_;rintro e V1⟨⟨_,rfl,C,o,rfl,a⟩,c⟩
 replace H:=U0 (H.out.call c (a1E a H.out.bel.size))
 clear c a
 go_wp2_with(first|(refine G5 H.out.ca rfl _ _ rfl rfl rfl Y0 ?_)|(refine x9 H.out rfl 50 _ _ rfl (j:=13) (.slice (some ⟨C,0,none⟩) b.rn.length o) rfl rfl rfl (X9 rfl) Y0 ?_;clear H;intro V H))
 refine(c56 q.ja q.jc b.jb V d.out.jl (Dl f.out.jb H.out.bel)).mono ?_;rintro e V1⟨⟨_,rfl,B,n,rfl,K,a⟩,c⟩
 replace H:=U0 (H.out.call c (aT a H.out.bel.size))
 clear c a
 go_wp2_with(first|(refine G5 H.out.ca rfl _ _ rfl rfl rfl Y0 ?_)|(refine x9 H.out rfl 51 _ _ rfl (j:=14) (.slice B b.jb.length n) rfl rfl rfl (X9 rfl) Y0 ?_;clear H;intro V H)|(refine Bj H.out rfl 53 _ rfl [.int .i64 b.wd,.bool b.up,.int .i64 b.now,.int .i64 b.ep,.int .i64 b.ed,.slice m b.sf.length A,.slice l b.lo.length y,.slice F b.fs.length x,.int .i64 b.s.wd,.slice k b.s.ts.length v,.slice (some ⟨g,0,none⟩) b.s.rs.length t,.slice E b.hd.length r,.slice D b.rt.length p,.slice (some ⟨C,0,none⟩) b.rn.length o,.slice B b.jb.length n] rfl rfl underlying53 rfl Y0 ?_)|(refine Ui H.out rfl 53 _ _ rfl [.int .i64 b.wd,.bool b.up,.int .i64 b.now,.int .i64 b.ep,.int .i64 b.ed,.slice m b.sf.length A,.slice l b.lo.length y,.slice F b.fs.length x,.int .i64 b.s.wd,.slice k b.s.ts.length v,.slice (some ⟨g,0,none⟩) b.s.rs.length t,.slice E b.hd.length r,.slice D b.rt.length p,.slice (some ⟨C,0,none⟩) b.rn.length o,.slice B b.jb.length n] rfl rfl rfl rfl Y0 ?_;clear H;intro z W a c))
 exact o7 (I8 (P:=prog) (ty:=53) rfl _ z (w.heap.size+1) [.int .i64 b.wd,.bool b.up,.int .i64 b.now,.int .i64 b.ep,.int .i64 b.ed,.slice m b.sf.length A,.slice l b.lo.length y,.slice F b.fs.length x,.int .i64 b.s.wd,.slice k b.s.ts.length v,.slice (some ⟨g,0,none⟩) b.s.rs.length t,.slice E b.hd.length r,.slice D b.rt.length p,.slice (some ⟨C,0,none⟩) b.rn.length o,.slice B b.jb.length n] _ rfl W underlying53 rfl Y0) rfl ⟨⟨⟨_,_,_,_,_,_,_,_,_,_,_,_,_,_,_,_,_,_⟩,rfl,⟨L,K,N⟩,a.imp λu h=>by
  obtain⟨⟨⟨⟨⟨⟨⟨_,h1⟩,h2⟩,U⟩,S⟩,R⟩,Q⟩,O⟩:=h;exact⟨h1.1.1,h1.2.1,h2.1,U.1,S.1,R.1,Q.1,O.1⟩⟩,c⟩
