import Derived.Test.YtkccjgajimjjdaaGreatDoorK4
import Derived.Deep.Cut
import Derived.Deep.CutRange
import Derived.Test.YtkccjgajimjjdaaGreatDooreP2
import Derived.Lib.Bytealg
set_option linter.unusedVariables false
set_option maxHeartbeats 8000000
set_option maxRecDepth 100000
namespace Go.Proofs.YtkccjgajimjjdaaGreatDoor
open Proofs.Tryz Go.RowKit
theorem Y5{l:List Value}(h:l.all Value.oneCell'=true):∀v∈l,v.oneCell'=true:=Yp.1 h
def isC(d:TypeDesc):Bool:=match d with | .struct _ | .array _ _=>false|_=>true
section
variable{P:Program}{ops:Array Oper}{Q:Exit->Act->World->Prop}{rest:List Oper}{o:Oper}{a:Act}
theorem cells_one{v:Value}(h:v.oneCell'=true):v.cells=#[v]:=by cases v<;>first|rfl|cases h
theorem Il{w:World}(ty:TypeId)(x y:Operand)(ho:o.op=.store ty x y){B j:Nat}(hx:a.eval x=.pointer (some ⟨B,j,none⟩))(hv:(a.eval y).oneCell'=true)(hc:∃u,w.cell? ⟨B,j,none⟩=some u)(hf:w.frozen? ⟨B,j,none⟩=false)(b:(P.info? ty).map (·.size)=some 1):
 (execOp a.eval o).run P w=.ok .skip (w.setCell ⟨B,j,none⟩ (a.eval y)):=by
 generalize hy:a.eval y=v at*;obtain⟨u,c⟩:=hc;have d:(storeVar ty (aA B j) v).run P w=.ok () (w.setCell (aA B j) v):=by
  cases hq:P.info? ty with
  | none=>simp[hq]at b
  | some i=>
   have hz:i.size=1:=by simpa[hq]using b
   simp[storeVar,cells_one hv,Sem.run_bind,sizeOf,typeInfo,hq,hz,storeCells,run_store P w _ v _ hv,Bo,c,hf]
 unfold execOp;simp only[ho,hx,hy,Instr.storeAt,Instr.sureAddr,Sem.run_bind,Zp,Am,d]
theorem a1a{w:World}{ty:TypeId}{d:TypeDesc}(a:P.underlying ty=some d)(hd:isC d=true):(isAgg ty).run P w=.ok false w:=by
 unfold isAgg;rw[Sem.run_bind,Ws a w,Am];cases d<;>first|rfl|cases hd
theorem dA{w:World}(ty:TypeId)(x:Operand)(ho:o.op=.load ty x){B j:Nat}{v:Value}(hx:a.eval x=.pointer (some ⟨B,j,none⟩))(hc:w.cell? ⟨B,j,none⟩=some v)(b:(P.underlying ty).map isC=some true):(execOp a.eval o).run P w=.ok (.value v) w:=by
 obtain⟨d,c,hd⟩:=WB.1 b;have hr:(loadVar ty (aA B j)).run P w=.ok v w:=by
  unfold loadVar;rw[Sem.run_bind,a1a c hd,Am];simp[hc]
 unfold execOp;simp only[ho,hx,Instr.loadAt,Instr.sureAddr,Sem.run_bind,Zp,Am,hr]
theorem N8{B:Nat}{t:TypeId}{cs:List Value}{w:World}(H:Cl w B t cs)(c:o.guard=none)(ty:TypeId)(x:Operand)(ho:o.op=.load ty x){j:Nat}{v:Value}(hx:a.eval x=.pointer (some ⟨B,j,none⟩))(hv:cs[j]?=some v)(b:(P.underlying ty).map isC=some true)(d:wpList P ops Q rest (a.put o.dst v) w):wpList P ops Q (o::rest) a w:=
 Vb c (dA ty x ho hx ((H.cell j).trans hv) b) d
theorem mW{l cs:List Value}{j i:Nat}{v:Value}(hc:(l.drop j).take cs.length=cs)(e:cs[i]?=some v):l[j+i]?=some v:=by
 rw[<- fF];rw[<- hc,Gw]at e;split at e
 ·exact e
 cases e
theorem H8{B:Nat}{t:TypeId}{l:List Value}{w:World}(H:Cl w B t l)(f:o.guard=none)(ty:TypeId)(x:Operand)(ho:o.op=.load ty x){j:Nat}(cs:List Value){d:TypeDesc}(hx:a.eval x=.pointer (some ⟨B,j,none⟩))(hc:(l.drop j).take cs.length=cs)(b:P.underlying ty=some d)(hd:(match d with | .struct _ | .array _ _=>true|_=>false)=true)(c:(P.info? ty).map (·.size)=some cs.length)(g:wpList P ops Q rest (a.put o.dst (.agg cs.toArray)) w):wpList P ops Q (o::rest) a w:=
 Vb f (d_ ty x ho hx (λq v e=>(H.cell _).trans (mW hc e)) b hd c) g
end
theorem Oe{P:Program}{ops:Array Oper}{Q:Exit->Act->World->Prop}{rest:List Oper}{o:Oper}{a:Act}{w:World}{B:Nat}{t:TypeId}{cs:List Value}{d:TypeDesc}(H:Cl w B t cs)(e:o.guard=none)(ty:TypeId)(x:Operand)(ho:o.op=.load ty x)(hx:a.eval x=.pointer (some ⟨B,0,none⟩))(b:P.underlying ty=some d)(hd:(match d with | .struct _ | .array _ _=>true|_=>false)=true)(c:(P.info? ty).map (·.size)=some cs.length)(f:wpList P ops Q rest (a.put o.dst (.agg cs.toArray)) w):wpList P ops Q (o::rest) a w:=
 H8 H e ty x ho cs hx (by simp) b hd c f
theorem Cc{P:Program}{ops:Array Oper}{Q:Exit->Act->World->Prop}{rest:List Oper}{o:Oper}{a:Act}{w:World}{g p:Nat}{t:TypeId}{xs:List Value}(d:o.guard=none)(ty:TypeId)(x y:Operand)(ho:o.op=.store ty x y)(hx:a.eval x=.pointer (some ⟨g,p,none⟩))(hv:(a.eval y).oneCell'=true)(c:(P.info? ty).map (·.size)=some 1)(hC:Cl w g t xs)(b:p<xs.length)
 (e:∀w',Hid (Cl w' g t (xs.set p (a.eval y)))->Jr g w w'->wpList P ops Q rest (a.put o.dst undef) w'):wpList P ops Q (o::rest) a w:=
 PE d (Il ty x y ho hx hv ⟨xs[p],by rw[hC.cell,L9 b]⟩ (hC.opn p) c) (e _ (hC.set _ _) (O_ _ _ _ _))
end Go.Proofs.YtkccjgajimjjdaaGreatDoor
namespace Go.Proofs.YtkccjgajimjjdaaGreatDoor
open Proofs.Tryz Go.RowKit
variable{u u':World}{base e n size:Nat}{v:Value}{xs:List Value}
def pG(W:Int)(ls:List L4):List Value:=ls.flatMap λx=>[.bool x.has,.string x.nm,.string (G7 (Xq x) W)]
theorem X9(h:u.ownsRow base e size v n xs){k:Nat}(a:v.ownBlock=some k):k<u.heap.size:=by
 rcases h.2 with⟨hv,_⟩|⟨g,cap,cur,hv,hg,b,_⟩
 ·subst hv;simp[Value.ownBlock]at a
 subst hv;simp[Value.ownBlock]at a;obtain rfl:=a;exact(Eb.1 b).1
theorem UE(h:u.ownsRow base e size v n xs)(p:Addr)(x:Value)(hp:p.block<base):(u.setCell p x).ownsRow base e size v n xs:=by
 refine⟨h.1,h.2.imp id ?_⟩;rintro⟨g,cap,cur,h1,h2,b,a⟩;exact⟨g,cap,cur,h1,h2,(Ox _ _ _ _ O0).trans b,a⟩
theorem oH(W:Int)(l:List L4)(x:L4):pG W (l++[x])=pG W l++[.bool x.has,.string x.nm,.string (G7 (Xq x) W)]:=by simp[pG]
theorem own_below(h:u.ownsRow base e size v n xs)(b:Bw u u'):u'.ownsRow base e size v n xs:=by
 refine⟨h.1,h.2.imp id ?_⟩;rintro⟨g,cap,cur,h1,h2,a,c⟩;exact⟨g,cap,cur,h1,h2,(b.block g (Eb.1 a).1).trans a,c⟩
theorem Yu{R:Nat}(h:u.ownsRow base e size v n xs)(hs:u.heap.size<=u'.heap.size)(ho:∀k,k<u.heap.size->k≠R->u'.heap[k]?=u.heap[k]?)(hR:R<base):u'.ownsRow base e size v n xs:=by
 refine⟨h.1,h.2.imp id ?_⟩;rintro⟨g,cap,cur,h1,h2,a,b⟩;exact⟨g,cap,cur,h1,h2,(ho g (Eb.1 a).1 O0).trans a,b⟩
theorem P7{base':Nat}(h:u.ownsRow base e size v n xs)(a:base'<=base):u.ownsRow base' e size v n xs:=by
 refine⟨h.1,h.2.imp id ?_⟩;rintro⟨g,cap,cur,h1,h2,c,b⟩;exact⟨g,cap,cur,h1,I8 a h2,c,b⟩
theorem c233(m:M3)(ls:List L4)(c:Int)(t:BY)(W:Int)(H:Nat)(a:OA)(cap:Nat)(w:World)(hm:m.le 1048600)(ht:t.size<=1048700)(hf:(I4 (g_ c t.data.toList)).size<=1048700)(hl:ls.length<=1048576)(hs:∀i,(ls.getD i M_).tx.size<=1048600/\(Xq (ls.getD i M_)).size<=1048700)(hat:S9 w a ls)(hH:H<w.heap.size)(hW:w.cell? ⟨H,0,none⟩=some (.int .i64 W)):
 Calls prog 233 #[.pointer (some ⟨H,0,none⟩),.agg #[.string m.nm,.string m.tl,.string m.ar],.slice a ls.length cap,.agg #[.int .i64 c,.string t]] w λe w'=>(∃v,e=.returned (.agg #[.string (uf m),v,.string (G7 (I4 (g_ c t.data.toList)) W)])/\w'.ownsRow w.heap.size 213 3 v ls.length (pG W ls))/\Bw w w':=by
 have HL:=U0 hat
 go_in
 go_upto_region 1 with fail
 have hB0:Bw w (((w.alloc (.cells #[.string m.nm,.string m.tl,.string m.ar] 69)).alloc (.cells #[.int .i64 c,.string t] 72)).alloc (.cells #[.string ⟨#[]⟩,.slice none 0 0,.string ⟨#[]⟩] 162)):=(Y6.alloc E5 _).alloc Q8 _;have F:Hid ((Cl (((w.alloc (.cells #[.string m.nm,.string m.tl,.string m.ar] 69)).alloc (.cells #[.int .i64 c,.string t] 72)).alloc (.cells #[.string ⟨#[]⟩,.slice none 0 0,.string ⟨#[]⟩] 162)) w.heap.size 69 [.string m.nm,.string m.tl,.string m.ar]/\Cl (((w.alloc (.cells #[.string m.nm,.string m.tl,.string m.ar] 69)).alloc (.cells #[.int .i64 c,.string t] 72)).alloc (.cells #[.string ⟨#[]⟩,.slice none 0 0,.string ⟨#[]⟩] 162)) (w.heap.size+1) 72 [.int .i64 c,.string t]/\(((w.alloc (.cells #[.string m.nm,.string m.tl,.string m.ar] 69)).alloc (.cells #[.int .i64 c,.string t] 72)).alloc (.cells #[.string ⟨#[]⟩,.slice none 0 0,.string ⟨#[]⟩] 162)).cell? ⟨H,0,none⟩=some (.int .i64 W))/\Cl (((w.alloc (.cells #[.string m.nm,.string m.tl,.string m.ar] 69)).alloc (.cells #[.int .i64 c,.string t] 72)).alloc (.cells #[.string ⟨#[]⟩,.slice none 0 0,.string ⟨#[]⟩] 162)) (w.heap.size+2) 162 [.string ⟨#[]⟩,.slice none 0 0,.string ⟨#[]⟩]):=⟨⟨U8 (U8 (X4 w [.string m.nm,.string m.tl,.string m.ar] 69) _) _,U8 (by have h:=X4 (w.alloc (.cells #[.string m.nm,.string m.tl,.string m.ar] 69)) [.int .i64 c,.string t] 72;simpa using h) _,(hB0.cell (by exact hH)).trans hW⟩,by have h:=X4 ((w.alloc (.cells #[.string m.nm,.string m.tl,.string m.ar] 69)).alloc (.cells #[.int .i64 c,.string t] 72)) [.string ⟨#[]⟩,.slice none 0 0,.string ⟨#[]⟩] 162;simpa using h⟩;generalize ((w.alloc (.cells #[.string m.nm,.string m.tl,.string m.ar] 69)).alloc (.cells #[.int .i64 c,.string t] 72)).alloc (.cells #[.string ⟨#[]⟩,.slice none 0 0,.string ⟨#[]⟩] 162)=V at*;have hHV:=U9 hH hB0.size;have n:Hid (∀u,Bw V u->(Cl u w.heap.size 69 [.string m.nm,.string m.tl,.string m.ar]/\Cl u (w.heap.size+1) 72 [.int .i64 c,.string t]/\u.cell? ⟨H,0,none⟩=some (.int .i64 W))/\Cl u (w.heap.size+2) 162 [.string ⟨#[]⟩,.slice none 0 0,.string ⟨#[]⟩]/\Bw w u/\S9 u a ls):=λu r=>⟨⟨F.out.1.1.below r F.out.1.1.lt,F.out.1.2.1.below r F.out.1.2.1.lt,(r.cell (by exact hHV)).trans F.out.1.2.2⟩,F.out.2.below r F.out.2.lt,J5 hB0 r,U7 HL (J5 hB0 r)⟩;have hVz:=F.out.2.lt
 go_cut[9] from 10 (λs wx=>∃A,s=.pointer (some ⟨A,0,none⟩)/\V.heap.size<=A/\Hid (Cl wx A 162 [.string (uf m),.slice none 0 0,.string (G7 (I4 (g_ c t.data.toList)) W)])/\Hid (Bw V wx))
 case first=>
  have d:Bw V V.drew:=(G5 _ _).drew;refine wp_region_held_drew (S:=λu=>Cl u w.heap.size 69 [.string m.nm,.string m.tl,.string m.ar]/\Cl u (w.heap.size+1) 72 [.int .i64 c,.string t]/\u.cell? ⟨H,0,none⟩=some (.int .i64 W)) Y1 (n.out _ d).1 λhH=>?_;generalize V.drew=y at*;refine tq 0 hH ?_ (hv:=λu r=>d_ 69 _ rfl (B:=w.heap.size) (j:=0) (cs:=[.string m.nm,.string m.tl,.string m.ar]) rfl (λq v e=>by rw[o9];exact(r.1.cell q).trans e) underlying69 rfl Y1)
  try simp only[qq]
  refine tq 2 hH ?_ (hv:=λu r=>d_ 72 _ rfl (B:=w.heap.size+1) (j:=0) (cs:=[.int .i64 c,.string t]) rfl (λq v e=>by rw[o9];exact(r.2.1.cell q).trans e) underlying72 rfl Y1)
  try simp only[qq]
  refine p_ 4 ?_;refine p_ 5 ?_;refine p_ 6 ?_;refine p_ 7 ?_;refine wpAnyH_ready (rs:=[1,10]) Y1 E5 ?_;refine AllReadyH.cons (o:=⟨some 13,.call ⟨.value (.func 275),#[.tmp 12],#[69]⟩,9,_,_,none⟩) rfl (λK f=>?_) (AllReadyH.cons (o:=⟨some 9,.alloc 162,0,_,_,none⟩) rfl (λK f=>?_) AllReadyH.nil);rotate_left
  focus
   go_simp;have g:=U0 (X4 y [.string ⟨#[]⟩,.slice none 0 0,.string ⟨#[]⟩] 162);have hA:=d.size
   replace d:=J5 d (Y6 (w:=y) (o:=.cells #[.string ⟨#[]⟩,.slice none 0 0,.string ⟨#[]⟩] 162))
   refine A8 f (n _ d).1 λhH=>?_;generalize y.alloc (.cells #[.string ⟨#[]⟩,.slice none 0 0,.string ⟨#[]⟩] 162)=ya at*;refine rq 1 λK f=>?_;go_simp;refine(a1Y m _ hm).mono ?_;rintro e u0⟨rfl,l⟩
   replace g:=U0 (g.out.below l g.out.lt)
   replace d:=J5 d l
   go_simp;refine A8 f (n _ d).1 λhH=>?_;refine rq 3 λK f=>?_;go_simp;refine(NP c t _ ht).mono ?_;rintro e u1⟨rfl,l⟩
   replace g:=U0 (g.out.below l g.out.lt)
   replace d:=J5 d l
   go_simp;refine A8 f (n _ d).1 λhH=>?_;refine rq 8 λK f=>?_;go_simp;refine(zJ _ W _ hf).mono ?_;rintro e u2⟨rfl,l⟩
   replace g:=U0 (g.out.below l g.out.lt)
   replace d:=J5 d l
   go_simp;refine A8 f (n _ d).1 λhH=>?_;refine sq ?_;refine rq 11 λK f=>?_;refine t_ rfl 162 _ _ rfl (j:=0) rfl rfl g X7 (Y5 rfl) Y1 ?_
  rotate_left
  focus
   go_simp;refine(a1Y m _ hm).mono ?_;rintro e u0⟨rfl,l⟩
   replace d:=J5 d l
   go_simp;refine A8 f (n _ d).1 λhH=>?_;refine wpAnyH_ready (rs:=[3,10]) Y1 E5 ?_;refine AllReadyH.cons (o:=⟨some 15,.call ⟨.value (.func 274),#[.tmp 14],#[72]⟩,9,_,_,none⟩) rfl (λK f=>?_) (AllReadyH.cons (o:=⟨some 9,.alloc 162,0,_,_,none⟩) rfl (λK f=>?_) AllReadyH.nil);rotate_left
   ·go_simp;have g:=U0 (X4 u0 [.string ⟨#[]⟩,.slice none 0 0,.string ⟨#[]⟩] 162);have hA:=d.size
    replace d:=J5 d (Y6 (w:=u0) (o:=.cells #[.string ⟨#[]⟩,.slice none 0 0,.string ⟨#[]⟩] 162))
    refine A8 f (n _ d).1 λhH=>?_;generalize u0.alloc (.cells #[.string ⟨#[]⟩,.slice none 0 0,.string ⟨#[]⟩] 162)=ya at*;refine rq 3 λK f=>?_;go_simp;refine(NP c t _ ht).mono ?_;rintro e u1⟨rfl,l⟩
    replace g:=U0 (g.out.below l g.out.lt)
    replace d:=J5 d l
    go_simp;refine A8 f (n _ d).1 λhH=>?_;refine rq 8 λK f=>?_;go_simp;refine(zJ _ W _ hf).mono ?_;rintro e u2⟨rfl,l⟩
    replace g:=U0 (g.out.below l g.out.lt)
    replace d:=J5 d l
    go_simp;refine A8 f (n _ d).1 λhH=>?_;refine sq ?_;refine rq 11 λK f=>?_;refine t_ rfl 162 _ _ rfl (j:=0) rfl rfl g X7 (Y5 rfl) Y1 ?_;intro z J D
    replace d:=d.trans (D.below hA)
    have Z:=U0 J;refine A8 f (n _ d).1 λhH=>?_;refine wdn ?_
    go_wp2_with fail
    go_meet
    exact⟨_,rfl,hA,Z,d⟩
   go_simp;refine(NP c t _ ht).mono ?_;rintro e u1⟨rfl,l⟩
   replace d:=J5 d l
   go_simp;refine A8 f (n _ d).1 λhH=>?_;refine wpAnyH_ready (rs:=[8,10]) Y1 E5 ?_;refine AllReadyH.cons (o:=⟨some 20,.call ⟨.value (.func 184),#[.tmp 15,.tmp 19],#[9,3]⟩,9,_,_,none⟩) rfl (λK f=>?_) (AllReadyH.cons (o:=⟨some 9,.alloc 162,0,_,_,none⟩) rfl (λK f=>?_) AllReadyH.nil);rotate_left
   ·go_simp;have g:=U0 (X4 u1 [.string ⟨#[]⟩,.slice none 0 0,.string ⟨#[]⟩] 162);have hA:=d.size
    replace d:=J5 d (Y6 (w:=u1) (o:=.cells #[.string ⟨#[]⟩,.slice none 0 0,.string ⟨#[]⟩] 162))
    refine A8 f (n _ d).1 λhH=>?_;generalize u1.alloc (.cells #[.string ⟨#[]⟩,.slice none 0 0,.string ⟨#[]⟩] 162)=ya at*;refine rq 8 λK f=>?_;go_simp;refine(zJ _ W _ hf).mono ?_;rintro e u2⟨rfl,l⟩
    replace g:=U0 (g.out.below l g.out.lt)
    replace d:=J5 d l
    go_simp;refine A8 f (n _ d).1 λhH=>?_;refine sq ?_;refine rq 11 λK f=>?_;refine t_ rfl 162 _ _ rfl (j:=0) rfl rfl g X7 (Y5 rfl) Y1 ?_;intro z J D
    replace d:=d.trans (D.below hA)
    have Z:=U0 J;refine A8 f (n _ d).1 λhH=>?_;refine wdn ?_
    go_wp2_with fail
    go_meet
    exact⟨_,rfl,hA,Z,d⟩
   go_simp;refine(zJ _ W _ hf).mono ?_;rintro e u2⟨rfl,l⟩
   replace d:=J5 d l
   go_simp;refine A8 f (n _ d).1 λhH=>?_;refine sq ?_;refine rq 10 λK f=>?_;go_simp;have g:=U0 (X4 u2 [.string ⟨#[]⟩,.slice none 0 0,.string ⟨#[]⟩] 162);have hA:=d.size
   replace d:=J5 d (Y6 (w:=u2) (o:=.cells #[.string ⟨#[]⟩,.slice none 0 0,.string ⟨#[]⟩] 162))
   refine A8 f (n _ d).1 λhH=>?_;generalize u2.alloc (.cells #[.string ⟨#[]⟩,.slice none 0 0,.string ⟨#[]⟩] 162)=ya at*;refine rq 11 λK f=>?_;refine t_ rfl 162 _ _ rfl (j:=0) rfl rfl g X7 (Y5 rfl) Y1 ?_
  all_goals
   intro z J D
   replace d:=d.trans (D.below hA)
   have Z:=U0 J;refine A8 f (n _ d).1 λhH=>?_;refine wdn ?_
   go_wp2_with fail
   go_meet
   exact⟨_,rfl,hA,Z,d⟩
 obtain⟨A,rfl,hA,g,BV⟩:=hcut;obtain⟨_,CR,BW,_⟩:=n.out _ BV.out;obtain⟨b,off,hc⟩:=Yg (n.out V (G5 _ _)).2.2.2;have BE:=U0 BV.out;have fH:=(n _ BV).1.2.2;have HR:=U0 CR;have HB:=U0 BW;have hHw:=U9 hHV BV.out.size;have hAw:=g.out.lt;have hRw:=CR.lt;have FH:=U0 fH;generalize wc=E at*;have HK:=U0 hc;go_wp2;go_loopw[24] (λi wr=>∃(k:Nat)(v:Value),k<=ls.length/\i=.int .i64 k/\Hid (Cl wr A 162 [.string (uf m),v,.string (G7 (I4 (g_ c t.data.toList)) W)])/\Hid (wr.ownsRow E.heap.size 213 3 v k (pG W (ls.take k)))/\But A E wr) (λi _=>ls.length-(RowKit.intOf i).toNat);exact⟨0,.slice none 0 0,J4 _,rfl,g,Y_ _ _ _ _,But.refl _ _⟩;obtain⟨k,v,hk,rfl,CAr,Y,BT⟩:=hrel;obtain⟨X,U,rfl⟩:=V9 Y.out;have sz:=BT.size;by_cases N:k<ls.length;rotate_left
 ·obtain rfl:k=ls.length:=O0;have CR:=U0 ((BT.block (w.heap.size+2) O0 O0).trans HR)
  go_wp2_with(first|(refine Oe CAr.out rfl 162 _ rfl rfl underlying162 rfl Y1 ?_)|(refine I7 rfl 162 _ _ rfl (j:=0) rfl rfl CR.out X7 (Y5 rfl) Y1 ?_;intro z J D))
  refine Q7 (J7 (P:=prog) (ty:=162) rfl _ z (w.heap.size+2) [.string (uf m),.slice X ls.length U,.string (G7 (I4 (g_ c t.data.toList)) W)] _ rfl J.blk underlying162 rfl Y1) rfl ⟨⟨_,rfl,?_⟩,(HB.out.trans (BT.below O0 O0)).trans (D.below O0)⟩;have h:=Y.out;rw[Ns]at h;exact P7 (Yu h (uh D.size.symm) (λq _ hne=>D.block q hne) O0) O0
 obtain⟨ha,hbw,hcell⟩:=Jd HK.out N;subst ha;have GB:Hid (∀i v,([.bool (ls.getD k M_).has,.string (ls.getD k M_).nm,.int .i64 (ls.getD k M_).cd,.string (ls.getD k M_).tx]:List Value)[i]?=some v->wr.cell? ⟨b,off+k*4+i,none⟩=some v):=λi v e=>by
  rw[BT.cell (p:=⟨b,off+k*4+i,none⟩) (U9 hbw BE.out.size) (by show b≠A;omega),BE.out.cell (p:=⟨b,off+k*4+i,none⟩) hbw]
  match i,e with
  | 0,e=>cases e;exact(hcell k N).1
  | 1,e=>cases e;exact(hcell k N).2.1
  | 2,e=>cases e;exact(hcell k N).2.2.1
  | 3,e=>cases e;exact(hcell k N).2.2.2
 have HT:=U0 (jw N);have hxs:=hs k;have hDn:=U0 (λq L=>X9 Y (k:=q) L);have hOb:=U0 (λq L=>Z4 Y (k:=q) L);generalize ls.getD k M_=x at*
 go_upto_region 5 with(first|(refine Vb rfl (d_ 138 _ rfl (B:=b) (j:=off+k*4) (cs:=[.bool x.has,.string x.nm,.int .i64 x.cd,.string x.tx]) rfl GB.out underlying138 rfl Y1) ?_)|(refine I7 rfl 138 _ _ rfl (j:=0) rfl rfl (X4 wr [.bool false,.string ⟨#[]⟩,.int .i64 0,.string ⟨#[]⟩] 138) X7 (Y5 rfl) Y1 ?_;intro uA cx ox))
 have bA:=Y6.trans (ox.below X7);have Q:Hid (∀u,Bw uA u->(Cl u wr.heap.size 138 [.bool x.has,.string x.nm,.int .i64 x.cd,.string x.tx]/\Cl u A 162 [.string (uf m),.slice X k U,.string (G7 (I4 (g_ c t.data.toList)) W)])/\u.ownsRow E.heap.size 213 3 (.slice X k U) k (pG W (ls.take k))/\But A E u/\wr.heap.size<u.heap.size/\u.cell? ⟨H,0,none⟩=some (.int .i64 W)):=λu r=>have h:=J5 bA r;have hB:=BT.trans (But.of_below h);⟨⟨cx.below r cx.lt,CAr.out.below h CAr.out.lt⟩,own_below Y h,hB,U9 cx.lt r.size,(hB.cell (p:=⟨H,0,none⟩) hHw (by show H≠A;omega)).trans FH⟩
 have C:Bw uA uA.drew:=(G5 _ _).drew;refine Qd 8 (S:=λu=>Cl u wr.heap.size 138 [.bool x.has,.string x.nm,.int .i64 x.cd,.string x.tx]/\Cl u A 162 [.string (uf m),.slice X k U,.string (G7 (I4 (g_ c t.data.toList)) W)]) Y1 (Q _ C).1 λhH=>?_;generalize uA.drew=y at*;refine lq 0 hH ?_
 try simp only[qq]
 refine lq 1 hH ?_ (hv:=λu r=>dA 160 _ rfl (B:=A) (j:=1) rfl (r.2.cell 1) Y1)
 try simp only[qq]
 refine lq 2 hH ?_
 try simp only[qq]
 refine lq 3 hH ?_ (hv:=λu r=>d_ 138 _ rfl (B:=wr.heap.size) (j:=0) (cs:=[.bool x.has,.string x.nm,.int .i64 x.cd,.string x.tx]) rfl (λq v e=>by rw[o9];exact(r.1.cell q).trans e) underlying138 rfl Y1)
 try simp only[qq]
 refine lr (i:=4) (o:=⟨some 32,.call ⟨.value (.func 276),#[.tmp 30,.tmp 31],#[187,138]⟩,213,_,_,none⟩) rfl Z5 Y1 λK f=>?_;go_simp;refine(a3M x W H y hxs.1 (by have:=(Q.out _ C).2.2.1.size;omega) (Q _ C).2.2.2.2 hxs.2).mono ?_;rintro e u1⟨rfl,l⟩
 replace C:=J5 C l
 go_simp;refine A8 f (Q _ C).1 λhH=>?_;refine lr (i:=5) (o:=⟨some 33,.buildSlice 160 1 #[(0,.tmp 32)],160,_,_,none⟩) rfl Z5 Y1 λK f=>?_;go_simp;have HS:=U0 (X4 u1 [.bool x.has,.string x.nm,.string (G7 (Xq x) W)] 213)
 replace C:=J5 C (Y6 (w:=u1) (o:=.cells #[.bool x.has,.string x.nm,.string (G7 (Xq x) W)] 213))
 refine A8 f (Q _ C).1 λhH=>?_;generalize u1.alloc (.cells #[.bool x.has,.string x.nm,.string (G7 (Xq x) W)] 213)=u2 at*;obtain⟨⟨c1,c2⟩,h3,I,h5,_⟩:=Q.out _ C;refine lr (i:=6) (o:=⟨some 34,.call ⟨.builtin .append,#[.tmp 29,.tmp 33],#[160,160]⟩,160,_,_,none⟩) rfl Z5 Y1 λK f=>?_;refine Ea rfl _ _ 160 rfl E.heap.size 213 3 underlying160 (Zc Y1) Z5 _ k (pG W (ls.take k)) rfl h3 _ 1 [.bool x.has,.string x.nm,.string (G7 (Xq x) W)] rfl (.inr ⟨⟨u1.heap.size,0,none⟩,1,rfl,rfl,Ti HS⟩) (Y5 rfl) O0 I.size ?_;intro v' R O6 g6 _;obtain⟨O,c6,rfl⟩:=V9 O6;have k1:=U0 ((g6.block wr.heap.size h5 (λh=>by have:=hDn.out wr.heap.size h.symm;omega)).trans c1);have k2:Hid (Cl R A 162 [.string (uf m),.slice X k U,.string (G7 (I4 (g_ c t.data.toList)) W)]):=(g6.block A c2.lt (λh=>by have:=hOb.out A h.symm;omega)).trans c2;have B6:But A E R:=⟨g6.os.trans I.os,g6.tape.trans I.tape,g6.output.trans I.output,I8 I.size g6.size,λq L hne=>(g6.block q (U9 L I.size) (λh=>by have:=hOb.out q h.symm;omega)).trans (I.block q L hne)⟩;have H6:=U0 O6;refine A8 f ⟨k1,k2⟩ λhH=>?_;refine lq 7 hH ?_
 try simp only[qq]
 refine lz (o:=⟨none,.store 160 (.tmp 35) (.tmp 34),0,_,_,none⟩) rfl Y1 λK f=>?_;refine Gn rfl (Il 160 _ _ rfl (B:=A) (j:=1) rfl rfl ⟨_,k2.out.cell 1⟩ (k2.out.opn 1) Y1) ?_;refine f _ _ ?_
 try simp only[qq]
 have C7:Hid (Cl (R.setCell ⟨A,1,none⟩ (.slice O (k+1) c6)) A 162 [.string (uf m),.slice O (k+1) c6,.string (G7 (I4 (g_ c t.data.toList)) W)]):=k2.out.set 1 _;have O7:Hid ((R.setCell ⟨A,1,none⟩ (.slice O (k+1) c6)).ownsRow E.heap.size 213 3 (.slice O (k+1) c6) (k+1) (pG W (ls.take (k+1)))):=by
  show World.ownsRow _ _ _ _ _ _ _;rw[HT.out,oH];exact UE H6 _ _ hAw
 have B7:But A E (R.setCell ⟨A,1,none⟩ (.slice O (k+1) c6)):=B6.setCell 1 _;refine ig Y1 ?_ _;go_wp2;go_roundw;exact⟨k+1,.slice O (k+1) c6,O0,by go_num,C7,O7,B7⟩;exact Z9
end Go.Proofs.YtkccjgajimjjdaaGreatDoor
namespace Go.Proofs.YtkccjgajimjjdaaGreatDoor.T
open Proofs.Tryz Go.RowKit
variable{w:World}{a:OA}{v:Bool}{t:BY}{h i j:Nat}
theorem Nb(q:Nat)(h:q<1048577):IntKind.i64.wrap (q:Int)=(q:Int):=by
 have h1:(q:Int) % 2^64=q:=O0;simp only[IntKind.wrap,IntKind.bits,IntKind.signed,h1];rw[Y7 Q8]
structure F2 where
 nm:BY
 tx:BY
def G9:F2:=⟨⟨#[]⟩,⟨#[]⟩⟩
def G6(w:World)(a:OA)(rs:List F2):Prop:=
 rs=[]\/∃b off,a=some ⟨b,off,none⟩/\b<w.heap.size/\∀i,i<rs.length->w.cell? ⟨b,off+i*2,none⟩=some (.string (rs.getD i G9).nm)/\w.cell? ⟨b,off+i*2+1,none⟩=some (.string (rs.getD i G9).tx)
theorem v_{rs:List F2}(h:G6 w a rs):∃b off,(rs=[]\/(a=some ⟨b,off,none⟩/\b<w.heap.size/\∀i,i<rs.length->w.cell? ⟨b,off+i*2,none⟩=some (.string (rs.getD i G9).nm)/\w.cell? ⟨b,off+i*2+1,none⟩=some (.string (rs.getD i G9).tx))):=by
 rcases h with h|⟨b,off,h⟩
 ·exact⟨0,0,.inl h⟩
 exact⟨b,off,.inr h⟩
theorem U5{w':World}{rs:List F2}(h:G6 w a rs)(c:Bw w w'):G6 w' a rs:=by
 rcases h with h|⟨b,off,h1,h2,e⟩
 ·exact .inl h
 exact .inr ⟨b,off,h1,U9 h2 c.size,λi d=>by rw[c.cell (by exact h2),c.cell (by exact h2)];exact e i d⟩
def F2.le(x:F2)(B:Nat):Prop:=x.nm.size<=B/\x.tx.size<=B
theorem Xy(u:World)(B j m:Nat)(a v1:Value)(h0:m≠j)(h1:m≠j+1):((u.setCell ⟨B,j,none⟩ a).setCell ⟨B,j+1,none⟩ v1).cell? ⟨B,m,none⟩=u.cell? ⟨B,m,none⟩:=by
 rw[Xb _ _ _ _ (Pe (Ym h1)),Xb _ _ _ _ (Pe (Ym h0))]
theorem Ov:(prog.info? 67).map (λi=>(i.zero,i.size,i.bytes))=some (some (.agg #[.string ⟨#[]⟩,.string ⟨#[]⟩]),2,32):=Y1
def Xa(x:F2):Bool:=X6 x.nm.data.toList&&decide ((x.tx.size:Int)<=300)
theorem c74(x:F2)(w:World)(b:x.le 1048700):
 Calls prog 74 #[.agg #[.string x.nm,.string x.tx]] w λe w'=>e=.returned (.bool (Xa x))/\Bw w w':=by
 have a:Hid (Xa x=(X6 x.nm.data.toList&&decide ((x.tx.size:Int)<=300))):=rfl;obtain⟨h1,h2⟩:=b
 go_in
 go_wp2_with fail
 refine(VO _ _ h1).mono ?_;rintro e w1⟨rfl,rfl⟩;cases hn:X6 x.nm.data.toList
 all_goals
  rw[hn]at a;go_wp2
  all_goals go_ret
  all_goals exact⟨b_ (by rw[a.out];simp),Y6⟩
theorem PX(x:F2)(w:World)(b:x.le 1048700):
 Calls prog 204 #[.agg #[.string x.nm,.string x.tx]] w λe w'=>e=.returned (.bool (Xa x))/\Bw w w':=by
 have a:Hid (Xa x=(X6 x.nm.data.toList&&decide ((x.tx.size:Int)<=300))):=rfl;obtain⟨h1,h2⟩:=b
 go_in
 go_wp2_with fail
 refine(c148 _ _ h1).mono ?_;rintro e w1⟨rfl,rfl⟩;cases hn:X6 x.nm.data.toList
 all_goals
  rw[hn]at a;go_wp2
  all_goals go_ret
  all_goals exact⟨b_ (by rw[a.out];simp),Y6⟩
theorem a5D{x:F2}(hv:Xa x=v)(w:World)(a:x.le 1048700):
 Calls prog 74 #[.agg #[.string x.nm,.string x.tx]] w λe w'=>e=.returned (.bool v)/\Bw w w':=hv▸c74 x w a
theorem a2P{x:F2}(hv:Xa x=v)(w:World)(a:x.le 1048700):
 Calls prog 204 #[.agg #[.string x.nm,.string x.tx]] w λe w'=>e=.returned (.bool v)/\Bw w w':=hv▸PX x w a
def Tf(fs:List F2)(k:Nat):Bool:=Xa (fs.getD k G9)&&(decide (k=0)||Op.bytesLess (fs.getD (k-1) G9).nm.toList (fs.getD k G9).nm.toList)
def D_(fs:List F2):Prop:=fs.length<=40/\∀k,k<fs.length->Tf fs k=true
theorem step_up{fs:List F2}{k:Nat}(h:Hid (∀j,j<k->Tf fs j=true))(e:Hid (Tf fs k=true)):Hid (∀j,j<k+1->Tf fs j=true):=λj hj=>by
 rcases D8 j k with a|a
 ·exact h.out j a
 obtain rfl:j=k:=O0;exact e.out
theorem a0G(a:OA)(cap:Nat)(fs:List F2)(w:World)(hl:fs.length<=1048576)(p:∀i,(fs.getD i G9).le 1048576)(D:G6 w a fs):
 Calls prog 174 #[.agg #[.slice a fs.length cap]] w λe w'=>(∃b:Bool,e=.returned (.bool b)/\(b=true↔D_ fs))/\Bw w w':=by
 obtain⟨b,off,hc⟩:=v_ D;have H:=U0 hc;by_cases hbig:40<fs.length
 ·go_in
  go_wp2;go_ret;exact⟨⟨false,rfl,by simp[D_];omega⟩,Y6⟩
 go_in
 go_wp2;go_loopw[3] (λi wr=>∃k:Nat,k<=fs.length/\i=.int .i64 k/\Below w.heap.size w wr/\wr.cell? ⟨w.heap.size,0,none⟩=some (.slice a fs.length cap)/\w.heap.size+1<=wr.heap.size/\Hid (∀j,j<k->Tf fs j=true)) (λi _=>fs.length-(RowKit.intOf i).toNat);exact⟨0,J4 _,rfl,Y6,E5,E5,λj h=>absurd h (y9 _)⟩;obtain⟨k,hk,rfl,c,t,hz,r⟩:=hrel;by_cases f:k<fs.length;rotate_left
 ·have m:Hid (D_ fs):=⟨O0,λj hj=>r.out j O0⟩;go_wp2;go_ret;exact⟨⟨true,rfl,by simp only[true_iff];exact m.out⟩,c⟩
 obtain⟨ha,l,n⟩:=Jd H.out f;subst ha;have I:=U0 c;have g0:=(c.cell (by exact l)).trans (n k f).1;have g1:=(c.cell (by exact l)).trans (n k f).2;have o:=U9 l c.size;have A:Hid ((fs.getD k G9).le 1048700):=⟨I8 (p k).1 O0,I8 (p k).2 O0⟩;rcases Jw k with h0|h0
 focus
  subst h0;have g:Hid (Tf fs 0=Xa (fs.getD 0 G9)):=by simp[Tf,Hid]
  simp only[Wv,Qo]at g0 g1;generalize fs.getD 0 G9=x at*;cases hx:Xa x
 rotate_left 2
 focus
  obtain⟨q,hq⟩:∃q,q+1=k:=⟨k-1,O0⟩;have g2:=(c.cell (by exact l)).trans (n q O0).1;have g:Hid (Tf fs k=(Xa (fs.getD k G9)&&Op.bytesLess (fs.getD q G9).nm.toList (fs.getD k G9).nm.toList)):=by
   have e1:decide (k=0)=false:=o_ O0;have F:k-1=q:=O0;unfold Tf;rw[e1,F];rfl
  have B:(0:Int)<(k:Int):=O0;have hm1:=X_ B;generalize fs.getD k G9=x at*;generalize fs.getD q G9=y at*;have hwr:IntKind.i64.wrap ((k:Int)-1)=(q:Int):=by rw[show(k:Int)-1=(q:Int) by omega];exact Nb q O0
  have hql:(q:Int)<(fs.length:Int):=O0;cases hx:Xa x
  all_goals cases hy:Op.bytesLess y.nm.toList x.nm.toList
 all_goals
  go_wp2_with fail
  first|refine wp_region_held_drew (S:=(λu=>u.cell? ⟨w.heap.size,0,none⟩=some (.slice (some ⟨b,off,none⟩) fs.length cap)/\u.cell? ⟨b,off+k*2,none⟩=some (.string x.nm)/\u.cell? ⟨b,off+k*2+1,none⟩=some (.string x.tx)/\u.cell? ⟨b,off+q*2,none⟩=some (.string y.nm))) Y1 ?_ λhH=>?_|refine wp_region_held_drew (S:=(λu=>u.cell? ⟨w.heap.size,0,none⟩=some (.slice (some ⟨b,off,none⟩) fs.length cap)/\u.cell? ⟨b,off,none⟩=some (.string x.nm)/\u.cell? ⟨b,off+1,none⟩=some (.string x.tx))) Y1 ?_ λhH=>?_
  · ((try dsimp only);go_keep)
  iterate 5 refine sq ?_
  refine rq 5 λK E=>?_;go_simp;refine(a5D hx _ A).mono ?_;rintro e w1⟨rfl,C⟩;have d:Hid (Bw wr w1):=((G5 _ _).drew).trans C;have v:=(d.out.cell (by show w.heap.size<wr.heap.size;omega)).trans t;have p1:=(d.out.cell (by exact o)).trans g0;have p2:=(d.out.cell (by exact o)).trans g1
  try have p3:=(d.out.cell (by exact o)).trans g2
  go_wp2_with fail
  refine E _ _ ?_ λhH=>?_
  · ((try dsimp only);go_keep)
  iterate 21 refine sq ?_
  refine wdn ?_;have s:=J5 I d;have z:=I8 hz d.out.size
  first|rw[hx,hy]at g|rw[hx]at g
  first
  |(have m:=step_up r g
    go_wp2;go_roundw;exact⟨_,f,by go_num,s,v,z,m⟩;exact Z9)
  |(clear hH
    go_wp2;go_ret;exact⟨⟨false,rfl,by simp only[Bool.false_eq_true,false_iff];intro h;have:=h.2 _ f;rw[g.out]at this;cases this⟩,s⟩)
theorem c152(a:OA)(cap:Nat)(fs:List F2)(w:World)(hl:fs.length<=1048576)(p:∀i,(fs.getD i G9).le 1048576)(N:G6 w a fs):
 Calls prog 152 #[.agg #[.slice a fs.length cap]] w λe w'=>(∃b:Bool,e=.returned (.bool b)/\(b=true↔D_ fs))/\Bw w w':=by
 obtain⟨b,off,hc⟩:=v_ N;have U:=U0 hc;by_cases hbig:40<fs.length
 ·go_in
  go_wp2;go_ret;exact⟨⟨false,rfl,by simp[D_];omega⟩,Y6⟩
 go_in
 go_wp2;go_loopw[12] (λi wr=>∃k:Nat,k<=fs.length/\i=.int .i64 k/\Below w.heap.size w wr/\wr.cell? ⟨w.heap.size,0,none⟩=some (.slice a fs.length cap)/\w.heap.size+1<=wr.heap.size/\Hid (∀j,j<k->Tf fs j=true)) (λi _=>fs.length-(RowKit.intOf i).toNat);exact⟨0,J4 _,rfl,Y6,E5,E5,λj h=>absurd h (y9 _)⟩;obtain⟨k,hk,rfl,c,B,hz,r⟩:=hrel;by_cases f:k<fs.length;rotate_left
 ·have m:Hid (D_ fs):=⟨O0,λj hj=>r.out j O0⟩;go_wp2;go_ret;exact⟨⟨true,rfl,by simp only[true_iff];exact m.out⟩,c⟩
 obtain⟨ha,l,n⟩:=Jd U.out f;subst ha;have v:=U0 c;have g0:=(c.cell (by exact l)).trans (n k f).1;have g1:=(c.cell (by exact l)).trans (n k f).2;have I:=U9 l c.size;have F:Hid ((fs.getD k G9).le 1048700):=⟨I8 (p k).1 O0,I8 (p k).2 O0⟩;rcases Jw k with h0|h0
 focus
  subst h0;have g:Hid (Tf fs 0=Xa (fs.getD 0 G9)):=by simp[Tf,Hid]
  simp only[Wv,Qo]at g0 g1;generalize fs.getD 0 G9=x at*;cases hx:Xa x
 rotate_left 2
 focus
  obtain⟨q,hq⟩:∃q,q+1=k:=⟨k-1,O0⟩;have g2:=(c.cell (by exact l)).trans (n q O0).1;have g:Hid (Tf fs k=(Xa (fs.getD k G9)&&Op.bytesLess (fs.getD q G9).nm.toList (fs.getD k G9).nm.toList)):=by
   have e1:decide (k=0)=false:=o_ O0;have R:k-1=q:=O0;unfold Tf;rw[e1,R];rfl
  have H:(0:Int)<(k:Int):=O0;have hm1:=X_ H;generalize fs.getD k G9=x at*;generalize fs.getD q G9=y at*;have hwr:IntKind.i64.wrap ((k:Int)-1)=(q:Int):=by rw[show(k:Int)-1=(q:Int) by omega];exact Nb q O0
  have hql:(q:Int)<(fs.length:Int):=O0;cases hx:Xa x
  all_goals cases hy:Op.bytesLess y.nm.toList x.nm.toList
 all_goals
  go_wp2_with fail
  have o:Hid (Bw wr (wr.alloc (.cells #[.string x.nm,.string x.tx] 67))):=Y6;have A:=(o.out.cell (by show w.heap.size<wr.heap.size;omega)).trans B
  try have z:=(o.out.cell (by exact I)).trans g2
  have Q:(wr.alloc (.cells #[.string x.nm,.string x.tx] 67)).cell? ⟨wr.heap.size,0,none⟩=some (.string x.nm):=E5;have P:(wr.alloc (.cells #[.string x.nm,.string x.tx] 67)).cell? ⟨wr.heap.size,1,none⟩=some (.string x.tx):=E5;have s:wr.heap.size<(wr.alloc (.cells #[.string x.nm,.string x.tx] 67)).heap.size:=E5;generalize (wr.alloc (.cells #[.string x.nm,.string x.tx] 67))=W at*;have E:w.heap.size<W.heap.size:=O0;have J:b<W.heap.size:=O0
  first|refine wp_region_held_drew (S:=(λu=>u.cell? ⟨w.heap.size,0,none⟩=some (.slice (some ⟨b,off,none⟩) fs.length cap)/\u.cell? ⟨wr.heap.size,0,none⟩=some (.string x.nm)/\u.cell? ⟨wr.heap.size,1,none⟩=some (.string x.tx)/\u.cell? ⟨b,off+q*2,none⟩=some (.string y.nm))) Y1 ?_ λhH=>?_|refine wp_region_held_drew (S:=(λu=>u.cell? ⟨w.heap.size,0,none⟩=some (.slice (some ⟨b,off,none⟩) fs.length cap)/\u.cell? ⟨wr.heap.size,0,none⟩=some (.string x.nm)/\u.cell? ⟨wr.heap.size,1,none⟩=some (.string x.tx))) Y1 ?_ λhH=>?_
  · ((try dsimp only);go_keep)
  iterate 1 refine sq ?_
  refine rq 1 λK O=>?_;go_simp;refine(a2P hx _ F).mono ?_;rintro e w1⟨rfl,L⟩;have d:Hid (Bw W w1):=((G5 _ _).drew).trans L;have C:=(d.out.cell (by exact E)).trans A;have p1:=(d.out.cell (by exact s)).trans Q;have p2:=(d.out.cell (by exact s)).trans P
  try have p3:=(d.out.cell (by exact J)).trans z
  go_wp2_with fail
  refine O _ _ ?_ λhH=>?_
  · ((try dsimp only);go_keep)
  iterate 17 refine sq ?_
  refine wdn ?_;have t:=v.out.trans ((o.out.trans (d.out.mono O0)).mono v.out.size);have D:w.heap.size+1<=w1.heap.size:=by have:=d.out.size;omega
  first|rw[hx,hy]at g|rw[hx]at g
  first
  |(have m:=step_up r g
    go_wp2;go_roundw;exact⟨_,f,by go_num,t,C,D,m⟩;exact Z9)
  |(clear hH
    go_wp2;go_ret;exact⟨⟨false,rfl,by simp only[Bool.false_eq_true,false_iff];intro h;have:=h.2 _ f;rw[g.out]at this;cases this⟩,t⟩)
theorem Xr{g:Nat}{is:List F2}{q:Addr}{v:Value}(h:G6 w (some ⟨g,0,none⟩) is)(c:q.block≠g):G6 (w.setCell q v) (some ⟨g,0,none⟩) is:=by
 rcases h with h|⟨b,off,h1,h2,k⟩
 ·exact .inl h
 have f:b=g:=by injection h1 with h1;injection h1 with h1 _;exact h1.symm
 have a:∀j,q≠⟨b,j,none⟩:=λj e=>c (by rw[e];exact f);refine .inr ⟨b,off,h1,by simpa using h2,λi d=>?_⟩;rw[Xb _ _ _ _ (a _),Xb _ _ _ _ (a _)];exact k i d
theorem cmp_neg:∀(a b:List UInt8),Lib.compareBytes a b<0↔Op.bytesLess a b=true
 | [],[]=>by simp[Lib.compareBytes,Op.bytesLess]
 | [],_::_=>by simp[Lib.compareBytes,Op.bytesLess]
 | _::_,[]=>by simp[Lib.compareBytes,Op.bytesLess]
 | x::a,y::b=>by
  have d:=cmp_neg a b;simp only[Lib.compareBytes,Op.bytesLess];by_cases h1:x<y
  ·simp[h1]
  by_cases h2:y<x
  ·have c:¬x=y:=λe=>by subst e;exact iK x h2
   simp[h1,h2,c]
  have c:=UInt8.le_antisymm (qF.1 h2) (qF.1 h1);subst c;simp[h1,d]
theorem uI:∀(a b:List UInt8),Lib.compareBytes a b=0↔a=b
 | [],[]=>by simp[Lib.compareBytes]
 | [],_::_=>by simp[Lib.compareBytes]
 | _::_,[]=>by simp[Lib.compareBytes]
 | x::a,y::b=>by
  have d:=uI a b;simp only[Lib.compareBytes];by_cases h1:x<y
  ·have c:¬x=y:=λe=>by subst e;exact iK x h1
   simp[h1,c]
  by_cases h2:y<x
  ·have c:¬x=y:=λe=>by subst e;exact iK x h2
   simp[h1,h2,c]
  have c:=UInt8.le_antisymm (qF.1 h2) (qF.1 h1);subst c;simp[h1,d]
def lt(a b:BY):Bool:=Op.bytesLess a.toList b.toList
def Du(a b:BY):Int:=Lib.compareBytes a.data.toList b.data.toList
theorem Hq(a b:BY):Du a b<0↔lt a b=true:=by
 unfold Du lt;rw[cmp_neg,ByteArray.toList_eq,ByteArray.toList_eq]
theorem Ew(a b:BY):Du a b=0↔a=b:=by
 unfold Du;rw[uI];exact⟨λh=>Xf (Zl.1 h),λh=>by rw[h]⟩
theorem a4q(a b:BY)(w:World):
 Calls prog 244 #[.string a,.string b] w λe w'=>e=.returned (.int .i64 (Du a b))/\w'=w:=by
 have hrun:∀u:World,(callFunc 285 #[.string a,.string b]).run prog u=.ok (.value (.int .i64 (Du a b))) u:=λu=>by
  rw[run_callFunc_extern func285 Y1 Y1 Y1 (e:=Extern.BytealgCompare.compare) Y1,Lib.run_compareString];rfl
 go_in
 go_wp2;go_ret;exact⟨rfl,rfl⟩
theorem c201(a b:BY)(w:World):
 Calls prog 201 #[.string a,.string b] w λe w'=>e=.returned (.int .i64 (Du a b))/\w'=w:=by
 go_in
 go_wp2_with fail
 refine(a4q a b _).mono ?_;rintro e w1⟨rfl,hw⟩;obtain rfl:=hw.symm;go_wp2;go_ret;exact⟨rfl,rfl⟩
theorem a2c(x:F2)(b:BY)(w:World):
 Calls prog 250 #[.agg #[.string x.nm,.string x.tx],.string b] w λe w'=>e=.returned (.int .i64 (Du x.nm b))/\Bw w w':=by
 go_in
 go_wp2_with fail
 refine(c201 x.nm b _).mono ?_;rintro e w1⟨rfl,hw⟩;obtain rfl:=hw.symm;go_wp2;go_ret;exact⟨rfl,Y6⟩
theorem Dt:∀(a b c:List UInt8),Op.bytesLess a b=true->Op.bytesLess b c=true->Op.bytesLess a c=true
 | _,[],_,h,_=>by simp[Op.bytesLess]at h
 | _,_::_,[],_,h=>by simp[Op.bytesLess]at h
 | [],_::_,_::_,_,_=>by simp[Op.bytesLess]
 | x::a,y::b,z::c,h,k=>by
  have d:=Dt a b c;simp only[Op.bytesLess,kJ,Ia,rf,Gp]at h k ⊢;rcases h with h|⟨rfl,h⟩
  ·rcases k with k|⟨rfl,k⟩
   ·exact .inl (UInt8.lt_trans h k)
   exact .inl h
  rcases k with k|⟨rfl,k⟩
  ·exact .inl k
  exact .inr ⟨rfl,d h k⟩
theorem Lp:∀(a:List UInt8),Op.bytesLess a a=false
 | []=>by simp[Op.bytesLess]
 | x::a=>by simp[Op.bytesLess,Lp a]
theorem Ig{a b c:BY}(h:lt a b=true)(k:lt b c=true):lt a c=true:=Dt _ _ _ h k
theorem Ud(a:BY):lt a a=false:=Lp _
structure Place(fs:List F2)(t:BY)(p:Nat)(f:Bool):Prop where
 le:p<=fs.length
 less:∀j,j<p->lt (fs.getD j G9).nm t=true
 more:∀j,p<=j->j<fs.length->lt (fs.getD j G9).nm t=false
 here:f=true↔p<fs.length/\(fs.getD p G9).nm=t
def Asc(fs:List F2):Prop:=∀i j,i<j->j<fs.length->lt (fs.getD i G9).nm (fs.getD j G9).nm=true
def Half(fs:List F2)(t:BY)(i j:Nat):Prop:=(∀q,q<i->lt (fs.getD q G9).nm t=true)/\∀q,j<=q->q<fs.length->lt (fs.getD q G9).nm t=false
theorem YX{fs:List F2}(hm:Asc fs)(a:Half fs t i j)(hl:h<fs.length)(hx:lt (fs.getD h G9).nm t=true):Half fs t (h+1) j:=by
 refine⟨λq hq=>?_,a.2⟩;rcases D8 q h with h1|h1
 ·exact Ig (hm q h h1 hl) hx
 obtain rfl:q=h:=O0;exact hx
theorem zN{fs:List F2}(hm:Asc fs)(a:Half fs t i j)(hx:lt (fs.getD h G9).nm t=false):Half fs t i h:=by
 refine⟨a.1,λq hq hl=>?_⟩;rcases D8 h q with h1|h1
 ·cases hc:lt (fs.getD q G9).nm t
  ·rfl
  rw[Ig (hm h q h1 hl) hc]at hx;cases hx
 obtain rfl:q=h:=O0;exact hx
theorem a3t(a:OA)(cap:Nat)(fs:List F2)(t:BY)(w:World)(hl:fs.length<=40)(D:G6 w a fs)(hm:Asc fs):
 Calls prog 249 #[.slice a fs.length cap,.string t,.func (.func 250) #[] #[]] w λe w'=>(∃p f,e=.returned (.tuple #[.int .i64 (p:Nat),.bool f])/\Place fs t p f)/\Bw w w':=by
 obtain⟨b,off,hc⟩:=v_ D;have B:=U0 hc;have A:=U0 hm
 go_in
 go_wp2;go_loopw[9,10] (λr o wr=>∃i j:Nat,i<=j/\j<=fs.length/\r=.int .i64 i/\o=.int .i64 j/\Below w.heap.size w wr/\Hid (Half fs t i j)) (λr o _=>(RowKit.intOf o).toNat-(RowKit.intOf r).toNat);exact⟨0,fs.length,J4 _,J8 _,rfl,rfl,G5 _ _,⟨λq h=>absurd h (y9 _),λq h k=>O0⟩⟩;obtain⟨i,j,hij,z,rfl,rfl,c,d⟩:=hrel;by_cases hlt:i<j;rotate_left
 ·obtain rfl:i=j:=O0;by_cases m:i<fs.length;rotate_left
  ·have y:Hid (Place fs t i false):=⟨O0,d.out.1,d.out.2,Q8⟩;have hd:decide ((i:Int)<(fs.length:Int))=false:=o_ O0;go_wp2
   all_goals go_ret2
   all_goals exact⟨⟨i,false,rfl,y.out⟩,c⟩
  obtain⟨ha,l,g⟩:=Jd B.out m;subst ha;have g0:=(c.cell (by exact l)).trans (g i m).1;have g1:=(c.cell (by exact l)).trans (g i m).2;have y:Hid (∀f:Bool,(f=true↔(fs.getD i G9).nm=t)->Place fs t i f):=λf hf=>⟨O0,d.out.1,d.out.2,hf.trans ⟨λh=>⟨m,h⟩,λh=>h.2⟩⟩;generalize fs.getD i G9=x at*
  go_wp2_with fail
  refine(a2c x t wr).mono ?_;rintro e w1⟨rfl,v⟩;have n:=J5 c v;go_wp2
  all_goals go_ret2
  all_goals exact⟨⟨i,_,rfl,y.out _ (by rw[<- Ew];simp)⟩,n⟩
 rcases B.out with C|⟨ha,l,g⟩
 ·rw[C]at z;simp at z;omega
 subst ha;have u:(i+j) / 2<fs.length:=O0;have g0:=(c.cell (by exact l)).trans (g _ u).1;have g1:=(c.cell (by exact l)).trans (g _ u).2;have E:Hid (lt (fs.getD ((i+j) / 2) G9).nm t=true->Half fs t ((i+j) / 2+1) j):=λhx=>YX A d u hx;have F:Hid (lt (fs.getD ((i+j) / 2) G9).nm t=false->Half fs t i ((i+j) / 2)):=λhx=>zN A d hx;generalize fs.getD ((i+j) / 2) G9=x at*
 go_wp2_with fail
 refine(a2c x t wr).mono ?_;rintro e w1⟨rfl,v⟩;have n:=J5 c v;cases hx:lt x.nm t
 ·have hc:¬Du x.nm t<0:=λh=>by rw[(Hq _ _).1 h]at hx;cases hx
  have hc1:=o_ hc;have s:=U0 (F.out hx);go_wp2;go_roundw;exact⟨i,(i+j) / 2,O0,O0,rfl,by go_num,n,s⟩;exact Z9
 have hc:=(Hq _ _).2 hx;have s:=U0 (E.out hx);go_wp2;go_roundw;exact⟨(i+j) / 2+1,j,O0,O0,by go_num,rfl,n,s⟩;exact Z9
theorem vW(a:OA)(cap:Nat)(fs:List F2)(t:BY)(w:World)(hl:fs.length<=40)(g:G6 w a fs)(hm:Asc fs):
 Calls prog 207 #[.agg #[.slice a fs.length cap],.string t] w λe w'=>(∃p f,e=.returned (.tuple #[.int .i64 (p:Nat),.bool f])/\Place fs t p f)/\Bw w w':=by
 have j:=U0 g;have i:=U0 hm;have b:Bw w (w.alloc (.cells #[.slice a fs.length cap] 40)):=Y6
 go_in
 go_wp2_with fail
 refine(a3t a cap fs t _ hl (U5 j b) i).mono ?_;rintro e w1⟨⟨p,f,rfl,c⟩,d⟩;have h:=U0 c;go_wp2;go_ret2;exact⟨⟨p,f,rfl,h⟩,J5 b d⟩
theorem Si{fs:List F2}(h:D_ fs):Asc fs:=by
 have b:∀j,j+1<fs.length->lt (fs.getD j G9).nm (fs.getD (j+1) G9).nm=true:=λj a=>by
  have:=h.2 (j+1) a;unfold Tf at this;simp only[Ia,kJ,rf]at this;rcases this.2 with h|h
  ·omega
  exact h
 intro i j hij
 induction j with
 | zero=>omega
 | succ j ih=>
  intro a;rcases D8 i j with h1|h1
  ·exact Ig (ih h1 O0) (b j a)
  obtain rfl:i=j:=O0;exact b i a
theorem a0R(a:OA)(cap:Nat)(fs:List F2)(nm:BY)(w:World)(hl:fs.length<=1048576)(l:G6 w a fs):
 Calls prog 176 #[.agg #[.slice a fs.length cap],.string nm] w λe w'=>(∃r:Int,e=.returned (.int .i64 r)/\((r=-1/\∀i,i<fs.length->(fs.getD i G9).nm≠nm)\/∃i:Nat,r=i/\i<fs.length/\(fs.getD i G9).nm=nm))/\Bw w w':=by
 obtain⟨b,off,hc⟩:=v_ l;have s:=U0 hc;have d:Bw w (w.alloc (.cells #[.slice a fs.length cap] 40)):=Y6;clear hc l
 go_in
 go_wp2;go_loop[5] (λi=>∃k:Nat,k<=fs.length/\i=.int .i64 k/\Hid (∀j,j<k->(fs.getD j G9).nm≠nm)) (λi=>fs.length-(RowKit.intOf i).toNat);exact⟨0,J4 _,rfl,λj h=>absurd h (y9 _)⟩;obtain⟨k,hk,rfl,f⟩:=hrel;by_cases c:k<fs.length;rotate_left
 ·go_wp2;go_ret;exact⟨⟨-1,rfl,.inl ⟨rfl,λi hi=>f.out i O0⟩⟩,d⟩
 obtain⟨ha,p,g⟩:=Jd s.out c;subst ha;have g0:=(d.cell (by exact p)).trans (g k c).1;have n:Hid (∃x,x=fs.getD k G9):=⟨_,rfl⟩;obtain⟨x,hx⟩:=n.out;rw[<- hx]at g0;have m:=U0 hx;clear g hx n;cases hq:(x.nm.toList==nm.toList)
 ·have o:Hid (∀j,j<k+1->(fs.getD j G9).nm≠nm):=λj hj=>by
   rcases D8 j k with h|h
   ·exact f.out j h
   obtain rfl:j=k:=O0;rw[<- m.out];intro e;rw[e]at hq;simp at hq
  go_wp2
  go_round
  exact⟨k+1,O0,by go_num,o⟩;exact Z9
 have he:x.nm=nm:=by
  have:=Gp.1 hq;rw[ByteArray.toList_eq,ByteArray.toList_eq]at this;exact Xf (Zl.1 this)
 have q:Hid (∃i:Nat,(k:Int)=i/\i<fs.length/\(fs.getD i G9).nm=nm):=⟨k,rfl,c,by rw[<- m.out];exact he⟩;clear he;go_wp2;go_ret;exact⟨⟨_,rfl,.inr q.out⟩,d⟩
