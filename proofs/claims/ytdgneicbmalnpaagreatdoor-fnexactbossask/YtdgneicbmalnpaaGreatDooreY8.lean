import Derived.Deep.CutRange
import Derived.Test.YtdgneicbmalnpaaGreatDoorQY3
import Derived.Test.YtdgneicbmalnpaaGreatDooreYI
set_option linter.all false
set_option maxHeartbeats 0
set_option maxRecDepth 99999
open Go.Value renaming slice->Sa,string->Sb,int->Sc,pointer->Sd
open Go.IntKind renaming i64->Se
open Go.Ending renaming returned->Sf
open Go.Obj renaming cells->Sg
namespace Go.Proofs.YtdgneicbmalnpaaGreatDoor
open Proofs.Tryz Go.RowKit
theorem X5{l:List Value}(h:l.all Value.oneCell'=true):∀v∈l,v.oneCell'=true:=Uo.1 h
def isC(d:TypeDesc):Bool:=match d with | .struct _ | .array _ _=>false|_=>true
section
variable{P:Program}{ops:Array Oper}{Q:Exit->Act->World->Prop}{rest:List Oper}{o:Oper}{a:Act}
theorem cells_one{v:Value}(h:v.oneCell'=true):v.cells=#[v]:=by cases v<;>first|rfl|cases h
theorem Ql{w:World}(ty:TypeId)(x y:Operand)(ho:o.op=.store ty x y){B j:Nat}(hx:a.eval x=Sd (some ⟨B,j,none⟩))(hv:(a.eval y).oneCell'=true)(hc:∃u,w.cell? ⟨B,j,none⟩=some u)(hf:w.frozen? ⟨B,j,none⟩=false)(b:(P.info? ty).map (·.size)=some 1):
 (execOp a.eval o).run P w=.ok .skip (w.setCell ⟨B,j,none⟩ (a.eval y)):=by
 generalize hy:a.eval y=v at*;obtain⟨u,c⟩:=hc;have hs:(storeVar ty (aA B j) v).run P w=.ok () (w.setCell (aA B j) v):=by
  cases hq:P.info? ty with
  | none=>simp[hq]at b
  | some i=>
   have hz:i.size=1:=by simpa[hq]using b
   simp[storeVar,cells_one hv,Xi,sizeOf,typeInfo,hq,hz,storeCells,run_store P w _ v _ hv,qo,c,hf]
 unfold execOp;simp only[ho,hx,hy,Instr.storeAt,Instr.sureAddr,Xi,Tj,Sm,hs]
theorem a0C{w:World}{ty:TypeId}{d:TypeDesc}(a:P.underlying ty=some d)(hd:isC d=true):(isAgg ty).run P w=.ok false w:=by
 unfold isAgg;rw[Xi,Zt a w,Sm];cases d<;>first|rfl|cases hd
theorem SA{w:World}(ty:TypeId)(x:Operand)(ho:o.op=.load ty x){B j:Nat}{v:Value}(hx:a.eval x=Sd (some ⟨B,j,none⟩))(hc:w.cell? ⟨B,j,none⟩=some v)(b:(P.underlying ty).map isC=some true):(execOp a.eval o).run P w=.ok (.value v) w:=by
 obtain⟨d,c,hd⟩:=qC.1 b;have hr:(loadVar ty (aA B j)).run P w=.ok v w:=by
  unfold loadVar;rw[Xi,a0C c hd,Sm];simp[hc]
 unfold execOp;simp only[ho,hx,Instr.loadAt,Instr.sureAddr,Xi,Tj,Sm,hr]
theorem J7{B:Nat}{t:TypeId}{cs:List Value}{w:World}(H:Cl w B t cs)(c:o.guard=none)(ty:TypeId)(x:Operand)(ho:o.op=.load ty x){j:Nat}{v:Value}(hx:a.eval x=Sd (some ⟨B,j,none⟩))(hv:cs[j]?=some v)(b:(P.underlying ty).map isC=some true)(d:wpList P ops Q rest (a.put o.dst v) w):wpList P ops Q (o::rest) a w:=
 Oa c (SA ty x ho hx ((H.cell j).trans hv) b) d
theorem QK{l cs:List Value}{j i:Nat}{v:Value}(hc:(l.drop j).take cs.length=cs)(e:cs[i]?=some v):l[j+i]?=some v:=by
 rw[<- vG];rw[<- hc,ny]at e;split at e
 ·exact e
 cases e
theorem D9{B:Nat}{t:TypeId}{l:List Value}{w:World}(H:Cl w B t l)(f:o.guard=none)(ty:TypeId)(x:Operand)(ho:o.op=.load ty x){j:Nat}(cs:List Value){d:TypeDesc}(hx:a.eval x=Sd (some ⟨B,j,none⟩))(hc:(l.drop j).take cs.length=cs)(b:P.underlying ty=some d)(hd:(match d with | .struct _ | .array _ _=>true|_=>false)=true)(c:(P.info? ty).map (·.size)=some cs.length)(g:wpList P ops Q rest (a.put o.dst (.agg cs.toArray)) w):wpList P ops Q (o::rest) a w:=
 Oa f (N9 ty x ho hx (λq v e=>(H.cell _).trans (QK hc e)) b hd c) g
end
theorem yc{P:Program}{ops:Array Oper}{Q:Exit->Act->World->Prop}{rest:List Oper}{o:Oper}{a:Act}{w:World}{B:Nat}{t:TypeId}{cs:List Value}{d:TypeDesc}(H:Cl w B t cs)(e:o.guard=none)(ty:TypeId)(x:Operand)(ho:o.op=.load ty x)(hx:a.eval x=Sd (some ⟨B,0,none⟩))(b:P.underlying ty=some d)(hd:(match d with | .struct _ | .array _ _=>true|_=>false)=true)(c:(P.info? ty).map (·.size)=some cs.length)(f:wpList P ops Q rest (a.put o.dst (.agg cs.toArray)) w):wpList P ops Q (o::rest) a w:=
 D9 H e ty x ho cs hx (by simp) b hd c f
theorem Qc{P:Program}{ops:Array Oper}{Q:Exit->Act->World->Prop}{rest:List Oper}{o:Oper}{a:Act}{w:World}{g p:Nat}{t:TypeId}{xs:List Value}(d:o.guard=none)(ty:TypeId)(x y:Operand)(ho:o.op=.store ty x y)(hx:a.eval x=Sd (some ⟨g,p,none⟩))(hv:(a.eval y).oneCell'=true)(c:(P.info? ty).map (·.size)=some 1)(hC:Cl w g t xs)(b:p<xs.length)
 (e:∀w',Hid (Cl w' g t (xs.set p (a.eval y)))->Jr g w w'->wpList P ops Q rest (a.put o.dst undef) w'):wpList P ops Q (o::rest) a w:=
 BF d (Ql ty x y ho hx hv ⟨xs[p],by rw[hC.cell,V8 b]⟩ (hC.opn p) c) (e _ (hC.set _ _) (u_ _ _ _ _))
end Go.Proofs.YtdgneicbmalnpaaGreatDoor
namespace Go.Proofs.YtdgneicbmalnpaaGreatDoor
open Proofs.Tryz Go.RowKit
variable{u u':World}{base e n size:Nat}{v:Value}{xs:List Value}{a b:Int}
def SG(W:Int)(ls:List L4):List Value:=ls.flatMap λx=>[.bool x.has,Sb x.nm,Sb (Y6 (Qs x) W)]
theorem o_(h:u.ownsRow base e size v n xs){k:Nat}(hk:v.ownBlock=some k):k<u.heap.size:=by
 rcases h.2 with⟨hv,_⟩|⟨g,cap,cur,hv,hg,a,_⟩
 ·subst hv;simp[Value.ownBlock]at hk
 subst hv;simp[Value.ownBlock]at hk;obtain rfl:=hk;exact(Ya.1 a).1
theorem Tv(h:u.ownsRow base e size v n xs)(p:Addr)(x:Value)(hp:p.block<base):(u.setCell p x).ownsRow base e size v n xs:=by
 refine⟨h.1,h.2.imp id ?_⟩;rintro⟨g,cap,cur,h1,h2,b,a⟩;exact⟨g,cap,cur,h1,h2,(ou _ _ _ _ O0).trans b,a⟩
theorem II(W:Int)(l:List L4)(x:L4):SG W (l++[x])=SG W l++[.bool x.has,Sb x.nm,Sb (Y6 (Qs x) W)]:=by simp[SG]
theorem own_below(h:u.ownsRow base e size v n xs)(b:Bw u u'):u'.ownsRow base e size v n xs:=by
 refine⟨h.1,h.2.imp id ?_⟩;rintro⟨g,cap,cur,h1,h2,a,c⟩;exact⟨g,cap,cur,h1,h2,(b.block g (Ya.1 a).1).trans a,c⟩
theorem jy{R:Nat}(h:u.ownsRow base e size v n xs)(hs:u.heap.size<=u'.heap.size)(ho:∀k,k<u.heap.size->k≠R->u'.heap[k]?=u.heap[k]?)(hR:R<base):u'.ownsRow base e size v n xs:=by
 refine⟨h.1,h.2.imp id ?_⟩;rintro⟨g,cap,cur,h1,h2,a,b⟩;exact⟨g,cap,cur,h1,h2,(ho g (Ya.1 a).1 O0).trans a,b⟩
theorem I7{base':Nat}(h:u.ownsRow base e size v n xs)(a:base'<=base):u.ownsRow base' e size v n xs:=by
 refine⟨h.1,h.2.imp id ?_⟩;rintro⟨g,cap,cur,h1,h2,c,b⟩;exact⟨g,cap,cur,h1,X7 a h2,c,b⟩
theorem a5i(m:M3)(ls:List L4)(c:Int)(t:BY)(W:Int)(H:Nat)(a:OA)(cap:Nat)(w:World)(hm:m.le 1048600)(ht:t.size<=1048700)(hf:(U3 (b_ c t.data.toList)).size<=1048700)(hl:ls.length<=1048576)(hs:∀i,(ls.getD i K_).tx.size<=1048600/\(Qs (ls.getD i K_)).size<=1048700)(hat:O9 w a ls)(hH:H<w.heap.size)(hW:w.cell? ⟨H,0,none⟩=some (Sc Se W)):
 Calls prog 267 #[Sd (some ⟨H,0,none⟩),.agg #[Sb m.nm,Sb m.tl,Sb m.ar],Sa a ls.length cap,.agg #[Sc Se c,Sb t]] w λe w'=>(∃v,e=Sf (.agg #[Sb (rf m),v,Sb (Y6 (U3 (b_ c t.data.toList)) W)])/\w'.ownsRow w.heap.size 235 3 v ls.length (SG W ls))/\Bw w w':=by
 have HL:=U0 hat
 go_in
 go_upto_region 1 with fail
 have hB0:Bw w (((w.alloc (Sg #[Sb m.nm,Sb m.tl,Sb m.ar] 142)).alloc (Sg #[Sc Se c,Sb t] 117)).alloc (Sg #[Sb ⟨#[]⟩,Sa none 0 0,Sb ⟨#[]⟩] 179)):=(U6.alloc J4 _).alloc L8 _;have F:Hid ((Cl (((w.alloc (Sg #[Sb m.nm,Sb m.tl,Sb m.ar] 142)).alloc (Sg #[Sc Se c,Sb t] 117)).alloc (Sg #[Sb ⟨#[]⟩,Sa none 0 0,Sb ⟨#[]⟩] 179)) w.heap.size 142 [Sb m.nm,Sb m.tl,Sb m.ar]/\Cl (((w.alloc (Sg #[Sb m.nm,Sb m.tl,Sb m.ar] 142)).alloc (Sg #[Sc Se c,Sb t] 117)).alloc (Sg #[Sb ⟨#[]⟩,Sa none 0 0,Sb ⟨#[]⟩] 179)) (w.heap.size+1) 117 [Sc Se c,Sb t]/\(((w.alloc (Sg #[Sb m.nm,Sb m.tl,Sb m.ar] 142)).alloc (Sg #[Sc Se c,Sb t] 117)).alloc (Sg #[Sb ⟨#[]⟩,Sa none 0 0,Sb ⟨#[]⟩] 179)).cell? ⟨H,0,none⟩=some (Sc Se W))/\Cl (((w.alloc (Sg #[Sb m.nm,Sb m.tl,Sb m.ar] 142)).alloc (Sg #[Sc Se c,Sb t] 117)).alloc (Sg #[Sb ⟨#[]⟩,Sa none 0 0,Sb ⟨#[]⟩] 179)) (w.heap.size+2) 179 [Sb ⟨#[]⟩,Sa none 0 0,Sb ⟨#[]⟩]):=⟨⟨E8 (E8 (I4 w [Sb m.nm,Sb m.tl,Sb m.ar] 142) _) _,E8 (by have h:=I4 (w.alloc (Sg #[Sb m.nm,Sb m.tl,Sb m.ar] 142)) [Sc Se c,Sb t] 117;simpa using h) _,(hB0.cell (by exact hH)).trans hW⟩,by have h:=I4 ((w.alloc (Sg #[Sb m.nm,Sb m.tl,Sb m.ar] 142)).alloc (Sg #[Sc Se c,Sb t] 117)) [Sb ⟨#[]⟩,Sa none 0 0,Sb ⟨#[]⟩] 179;simpa using h⟩;generalize ((w.alloc (Sg #[Sb m.nm,Sb m.tl,Sb m.ar] 142)).alloc (Sg #[Sc Se c,Sb t] 117)).alloc (Sg #[Sb ⟨#[]⟩,Sa none 0 0,Sb ⟨#[]⟩] 179)=V at*;have hHV:=P9 hH hB0.size;have n:Hid (∀u,Bw V u->(Cl u w.heap.size 142 [Sb m.nm,Sb m.tl,Sb m.ar]/\Cl u (w.heap.size+1) 117 [Sc Se c,Sb t]/\u.cell? ⟨H,0,none⟩=some (Sc Se W))/\Cl u (w.heap.size+2) 179 [Sb ⟨#[]⟩,Sa none 0 0,Sb ⟨#[]⟩]/\Bw w u/\O9 u a ls):=λu r=>⟨⟨F.o.1.1.below r F.o.1.1.lt,F.o.1.2.1.below r F.o.1.2.1.lt,(r.cell (by exact hHV)).trans F.o.1.2.2⟩,F.o.2.below r F.o.2.lt,E5 hB0 r,Q7 HL (E5 hB0 r)⟩;have hVz:=F.o.2.lt
 go_cut[9] from 10 (λs wx=>∃A,s=Sd (some ⟨A,0,none⟩)/\V.heap.size<=A/\Hid (Cl wx A 179 [Sb (rf m),Sa none 0 0,Sb (Y6 (U3 (b_ c t.data.toList)) W)])/\Hid (Bw V wx))
 case first=>
  have d:Bw V V.drew:=(O4 _ _).drew;refine wp_region_held_drew (S:=λu=>Cl u w.heap.size 142 [Sb m.nm,Sb m.tl,Sb m.ar]/\Cl u (w.heap.size+1) 117 [Sc Se c,Sb t]/\u.cell? ⟨H,0,none⟩=some (Sc Se W)) Y0 (n.o _ d).1 λhH=>?_;generalize V.drew=y at*;refine tq 0 hH ?_ (hv:=λu r=>N9 142 _ rfl (B:=w.heap.size) (j:=0) (cs:=[Sb m.nm,Sb m.tl,Sb m.ar]) rfl (λq v e=>by rw[Y8];exact(r.1.cell q).trans e) underlying142 rfl Y0)
  try simp only[qq]
  refine tq 2 hH ?_ (hv:=λu r=>N9 117 _ rfl (B:=w.heap.size+1) (j:=0) (cs:=[Sc Se c,Sb t]) rfl (λq v e=>by rw[Y8];exact(r.2.1.cell q).trans e) underlying117 rfl Y0)
  try simp only[qq]
  refine y_ 4 ?_;refine y_ 5 ?_;refine y_ 6 ?_;refine y_ 7 ?_;refine wpAnyH_ready (rs:=[1,10]) Y0 J4 ?_;refine AllReadyH.cons (o:=⟨some 13,.call ⟨.value (.func 308),#[.tmp 12],#[142]⟩,9,_,_,none⟩) rfl (λK f=>?_) (AllReadyH.cons (o:=⟨some 9,.alloc 179,0,_,_,none⟩) rfl (λK f=>?_) AllReadyH.nil);rotate_left
  focus
   go_simp;have g:=U0 (I4 y [Sb ⟨#[]⟩,Sa none 0 0,Sb ⟨#[]⟩] 179);have hA:=d.size
   replace d:=E5 d (U6 (w:=y) (o:=Sg #[Sb ⟨#[]⟩,Sa none 0 0,Sb ⟨#[]⟩] 179))
   refine G9 f (n _ d).1 λhH=>?_;generalize y.alloc (Sg #[Sb ⟨#[]⟩,Sa none 0 0,Sb ⟨#[]⟩] 179)=ya at*;refine rq 1 λK f=>?_;go_simp;refine(a2G m _ hm).mono ?_;rintro e u0⟨rfl,l⟩
   replace g:=U0 (g.o.below l g.o.lt)
   replace d:=E5 d l
   go_simp;refine G9 f (n _ d).1 λhH=>?_;refine rq 3 λK f=>?_;go_simp;refine(uQ c t _ ht).mono ?_;rintro e u1⟨rfl,l⟩
   replace g:=U0 (g.o.below l g.o.lt)
   replace d:=E5 d l
   go_simp;refine G9 f (n _ d).1 λhH=>?_;refine rq 8 λK f=>?_;go_simp;refine(uJ _ W _ hf).mono ?_;rintro e u2⟨rfl,l⟩
   replace g:=U0 (g.o.below l g.o.lt)
   replace d:=E5 d l
   go_simp;refine G9 f (n _ d).1 λhH=>?_;refine sq ?_;refine rq 11 λK f=>?_;refine qc rfl 179 _ _ rfl (j:=0) rfl rfl g A8 (X5 rfl) Y0 ?_
  rotate_left
  focus
   go_simp;refine(a2G m _ hm).mono ?_;rintro e u0⟨rfl,l⟩
   replace d:=E5 d l
   go_simp;refine G9 f (n _ d).1 λhH=>?_;refine wpAnyH_ready (rs:=[3,10]) Y0 J4 ?_;refine AllReadyH.cons (o:=⟨some 15,.call ⟨.value (.func 307),#[.tmp 14],#[117]⟩,9,_,_,none⟩) rfl (λK f=>?_) (AllReadyH.cons (o:=⟨some 9,.alloc 179,0,_,_,none⟩) rfl (λK f=>?_) AllReadyH.nil);rotate_left
   ·go_simp;have g:=U0 (I4 u0 [Sb ⟨#[]⟩,Sa none 0 0,Sb ⟨#[]⟩] 179);have hA:=d.size
    replace d:=E5 d (U6 (w:=u0) (o:=Sg #[Sb ⟨#[]⟩,Sa none 0 0,Sb ⟨#[]⟩] 179))
    refine G9 f (n _ d).1 λhH=>?_;generalize u0.alloc (Sg #[Sb ⟨#[]⟩,Sa none 0 0,Sb ⟨#[]⟩] 179)=ya at*;refine rq 3 λK f=>?_;go_simp;refine(uQ c t _ ht).mono ?_;rintro e u1⟨rfl,l⟩
    replace g:=U0 (g.o.below l g.o.lt)
    replace d:=E5 d l
    go_simp;refine G9 f (n _ d).1 λhH=>?_;refine rq 8 λK f=>?_;go_simp;refine(uJ _ W _ hf).mono ?_;rintro e u2⟨rfl,l⟩
    replace g:=U0 (g.o.below l g.o.lt)
    replace d:=E5 d l
    go_simp;refine G9 f (n _ d).1 λhH=>?_;refine sq ?_;refine rq 11 λK f=>?_;refine qc rfl 179 _ _ rfl (j:=0) rfl rfl g A8 (X5 rfl) Y0 ?_;intro z J D
    replace d:=d.trans (D.below hA)
    have Z:=U0 J;refine G9 f (n _ d).1 λhH=>?_;refine wdn ?_
    go_wp2_with fail
    go_meet
    exact⟨_,rfl,hA,Z,d⟩
   go_simp;refine(uQ c t _ ht).mono ?_;rintro e u1⟨rfl,l⟩
   replace d:=E5 d l
   go_simp;refine G9 f (n _ d).1 λhH=>?_;refine wpAnyH_ready (rs:=[8,10]) Y0 J4 ?_;refine AllReadyH.cons (o:=⟨some 20,.call ⟨.value (.func 215),#[.tmp 15,.tmp 19],#[9,3]⟩,9,_,_,none⟩) rfl (λK f=>?_) (AllReadyH.cons (o:=⟨some 9,.alloc 179,0,_,_,none⟩) rfl (λK f=>?_) AllReadyH.nil);rotate_left
   ·go_simp;have g:=U0 (I4 u1 [Sb ⟨#[]⟩,Sa none 0 0,Sb ⟨#[]⟩] 179);have hA:=d.size
    replace d:=E5 d (U6 (w:=u1) (o:=Sg #[Sb ⟨#[]⟩,Sa none 0 0,Sb ⟨#[]⟩] 179))
    refine G9 f (n _ d).1 λhH=>?_;generalize u1.alloc (Sg #[Sb ⟨#[]⟩,Sa none 0 0,Sb ⟨#[]⟩] 179)=ya at*;refine rq 8 λK f=>?_;go_simp;refine(uJ _ W _ hf).mono ?_;rintro e u2⟨rfl,l⟩
    replace g:=U0 (g.o.below l g.o.lt)
    replace d:=E5 d l
    go_simp;refine G9 f (n _ d).1 λhH=>?_;refine sq ?_;refine rq 11 λK f=>?_;refine qc rfl 179 _ _ rfl (j:=0) rfl rfl g A8 (X5 rfl) Y0 ?_;intro z J D
    replace d:=d.trans (D.below hA)
    have Z:=U0 J;refine G9 f (n _ d).1 λhH=>?_;refine wdn ?_
    go_wp2_with fail
    go_meet
    exact⟨_,rfl,hA,Z,d⟩
   go_simp;refine(uJ _ W _ hf).mono ?_;rintro e u2⟨rfl,l⟩
   replace d:=E5 d l
   go_simp;refine G9 f (n _ d).1 λhH=>?_;refine sq ?_;refine rq 10 λK f=>?_;go_simp;have g:=U0 (I4 u2 [Sb ⟨#[]⟩,Sa none 0 0,Sb ⟨#[]⟩] 179);have hA:=d.size
   replace d:=E5 d (U6 (w:=u2) (o:=Sg #[Sb ⟨#[]⟩,Sa none 0 0,Sb ⟨#[]⟩] 179))
   refine G9 f (n _ d).1 λhH=>?_;generalize u2.alloc (Sg #[Sb ⟨#[]⟩,Sa none 0 0,Sb ⟨#[]⟩] 179)=ya at*;refine rq 11 λK f=>?_;refine qc rfl 179 _ _ rfl (j:=0) rfl rfl g A8 (X5 rfl) Y0 ?_
  all_goals
   intro z J D
   replace d:=d.trans (D.below hA)
   have Z:=U0 J;refine G9 f (n _ d).1 λhH=>?_;refine wdn ?_
   go_wp2_with fail
   go_meet
   exact⟨_,rfl,hA,Z,d⟩
 obtain⟨A,rfl,hA,g,BV⟩:=hcut;obtain⟨_,CR,BW,_⟩:=n.o _ BV.o;obtain⟨b,off,hc⟩:=uh (n.o V (O4 _ _)).2.2.2;have BE:=U0 BV.o;have fH:=(n _ BV).1.2.2;have HR:=U0 CR;have HB:=U0 BW;have hHw:=P9 hHV BV.o.size;have hAw:=g.o.lt;have hRw:=CR.lt;have FH:=U0 fH;generalize wc=E at*;have HK:=U0 hc;go_wp2;go_loopw[24] (λi wr=>∃(k:Nat)(v:Value),k<=ls.length/\i=Sc Se k/\Hid (Cl wr A 179 [Sb (rf m),v,Sb (Y6 (U3 (b_ c t.data.toList)) W)])/\Hid (wr.ownsRow E.heap.size 235 3 v k (SG W (ls.take k)))/\But A E wr) (λi _=>ls.length-(RowKit.intOf i).toNat);exact⟨0,Sa none 0 0,Y4 _,rfl,g,M_ _ _ _ _,But.refl _ _⟩;obtain⟨k,v,hk,rfl,CAr,Y,BT⟩:=hrel;obtain⟨X,U,rfl⟩:=x9 Y.o;have sz:=BT.size;by_cases N:k<ls.length;rotate_left
 ·obtain rfl:k=ls.length:=O0;have CR:=U0 ((BT.block (w.heap.size+2) O0 O0).trans HR)
  go_wp2_with(first|(refine yc CAr.o rfl 179 _ rfl rfl underlying179 rfl Y0 ?_)|(refine N7 rfl 179 _ _ rfl (j:=0) rfl rfl CR.o A8 (X5 rfl) Y0 ?_;intro z J D))
  refine P7 (l7 (P:=prog) (ty:=179) rfl _ z (w.heap.size+2) [Sb (rf m),Sa X ls.length U,Sb (Y6 (U3 (b_ c t.data.toList)) W)] _ rfl J.blk underlying179 rfl Y0) rfl ⟨⟨_,rfl,?_⟩,(HB.o.trans (BT.below O0 O0)).trans (D.below O0)⟩;have h:=Y.o;rw[Xt]at h;exact I7 (jy h (Vf D.size.symm) (λq _ hne=>D.block q hne) O0) O0
 obtain⟨ha,hbw,hcell⟩:=Ud HK.o N;subst ha;have GB:Hid (∀i v,([.bool (ls.getD k K_).has,Sb (ls.getD k K_).nm,Sc Se (ls.getD k K_).cd,Sb (ls.getD k K_).tx]:List Value)[i]?=some v->wr.cell? ⟨b,off+k*4+i,none⟩=some v):=λi v e=>by
  rw[BT.cell (p:=⟨b,off+k*4+i,none⟩) (P9 hbw BE.o.size) (by show b≠A;omega),BE.o.cell (p:=⟨b,off+k*4+i,none⟩) hbw]
  match i,e with
  | 0,e=>cases e;exact(hcell k N).1
  | 1,e=>cases e;exact(hcell k N).2.1
  | 2,e=>cases e;exact(hcell k N).2.2.1
  | 3,e=>cases e;exact(hcell k N).2.2.2
 have HT:=U0 (Hw N);have hxs:=hs k;have hDn:=U0 (λq L=>o_ Y (k:=q) L);have hOb:=U0 (λq L=>X4 Y (k:=q) L);generalize ls.getD k K_=x at*
 go_upto_region 5 with(first|(refine Oa rfl (N9 213 _ rfl (B:=b) (j:=off+k*4) (cs:=[.bool x.has,Sb x.nm,Sc Se x.cd,Sb x.tx]) rfl GB.o underlying213 rfl Y0) ?_)|(refine N7 rfl 213 _ _ rfl (j:=0) rfl rfl (I4 wr [.bool false,Sb ⟨#[]⟩,Sc Se 0,Sb ⟨#[]⟩] 213) A8 (X5 rfl) Y0 ?_;intro uA cx ox))
 have bA:=U6.trans (ox.below A8);have Q:Hid (∀u,Bw uA u->(Cl u wr.heap.size 213 [.bool x.has,Sb x.nm,Sc Se x.cd,Sb x.tx]/\Cl u A 179 [Sb (rf m),Sa X k U,Sb (Y6 (U3 (b_ c t.data.toList)) W)])/\u.ownsRow E.heap.size 235 3 (Sa X k U) k (SG W (ls.take k))/\But A E u/\wr.heap.size<u.heap.size/\u.cell? ⟨H,0,none⟩=some (Sc Se W)):=λu r=>have h:=E5 bA r;have hB:=BT.trans (But.of_below h);⟨⟨cx.below r cx.lt,CAr.o.below h CAr.o.lt⟩,own_below Y h,hB,P9 cx.lt r.size,(hB.cell (p:=⟨H,0,none⟩) hHw (by show H≠A;omega)).trans FH⟩
 have C:Bw uA uA.drew:=(O4 _ _).drew;refine Cf 8 (S:=λu=>Cl u wr.heap.size 213 [.bool x.has,Sb x.nm,Sc Se x.cd,Sb x.tx]/\Cl u A 179 [Sb (rf m),Sa X k U,Sb (Y6 (U3 (b_ c t.data.toList)) W)]) Y0 (Q _ C).1 λhH=>?_;generalize uA.drew=y at*;refine lq 0 hH ?_
 try simp only[qq]
 refine lq 1 hH ?_ (hv:=λu r=>SA 177 _ rfl (B:=A) (j:=1) rfl (r.2.cell 1) Y0)
 try simp only[qq]
 refine lq 2 hH ?_
 try simp only[qq]
 refine lq 3 hH ?_ (hv:=λu r=>N9 213 _ rfl (B:=wr.heap.size) (j:=0) (cs:=[.bool x.has,Sb x.nm,Sc Se x.cd,Sb x.tx]) rfl (λq v e=>by rw[Y8];exact(r.1.cell q).trans e) underlying213 rfl Y0)
 try simp only[qq]
 refine lr (i:=4) (o:=⟨some 32,.call ⟨.value (.func 309),#[.tmp 30,.tmp 31],#[131,213]⟩,235,_,_,none⟩) rfl U5 Y0 λK f=>?_;go_simp;refine(a4U x W H y hxs.1 (by have:=(Q.o _ C).2.2.1.size;omega) (Q _ C).2.2.2.2 hxs.2).mono ?_;rintro e u1⟨rfl,l⟩
 replace C:=E5 C l
 go_simp;refine G9 f (Q _ C).1 λhH=>?_;refine lr (i:=5) (o:=⟨some 33,.buildSlice 177 1 #[(0,.tmp 32)],177,_,_,none⟩) rfl U5 Y0 λK f=>?_;go_simp;have HS:=U0 (I4 u1 [.bool x.has,Sb x.nm,Sb (Y6 (Qs x) W)] 235)
 replace C:=E5 C (U6 (w:=u1) (o:=Sg #[.bool x.has,Sb x.nm,Sb (Y6 (Qs x) W)] 235))
 refine G9 f (Q _ C).1 λhH=>?_;generalize u1.alloc (Sg #[.bool x.has,Sb x.nm,Sb (Y6 (Qs x) W)] 235)=u2 at*;obtain⟨⟨c1,c2⟩,h3,I,h5,_⟩:=Q.o _ C;refine lr (i:=6) (o:=⟨some 34,.call ⟨.builtin .append,#[.tmp 29,.tmp 33],#[177,177]⟩,177,_,_,none⟩) rfl U5 Y0 λK f=>?_;refine Ob rfl _ _ 177 rfl E.heap.size 235 3 underlying177 (Jc Y0) U5 _ k (SG W (ls.take k)) rfl h3 _ 1 [.bool x.has,Sb x.nm,Sb (Y6 (Qs x) W)] rfl (.inr ⟨⟨u1.heap.size,0,none⟩,1,rfl,rfl,yh HS⟩) (X5 rfl) O0 I.size ?_;intro v' R O6 g6 _;obtain⟨O,c6,rfl⟩:=x9 O6;have k1:=U0 ((g6.block wr.heap.size h5 (λh=>by have:=hDn.o wr.heap.size h.symm;omega)).trans c1);have k2:Hid (Cl R A 179 [Sb (rf m),Sa X k U,Sb (Y6 (U3 (b_ c t.data.toList)) W)]):=(g6.block A c2.lt (λh=>by have:=hOb.o A h.symm;omega)).trans c2;have B6:But A E R:=⟨g6.os.trans I.os,g6.tape.trans I.tape,g6.output.trans I.output,X7 I.size g6.size,λq L hne=>(g6.block q (P9 L I.size) (λh=>by have:=hOb.o q h.symm;omega)).trans (I.block q L hne)⟩;have H6:=U0 O6;refine G9 f ⟨k1,k2⟩ λhH=>?_;refine lq 7 hH ?_
 try simp only[qq]
 refine lz (o:=⟨none,.store 177 (.tmp 35) (.tmp 34),0,_,_,none⟩) rfl Y0 λK f=>?_;refine uo rfl (Ql 177 _ _ rfl (B:=A) (j:=1) rfl rfl ⟨_,k2.o.cell 1⟩ (k2.o.opn 1) Y0) ?_;refine f _ _ ?_
 try simp only[qq]
 have C7:Hid (Cl (R.setCell ⟨A,1,none⟩ (Sa O (k+1) c6)) A 179 [Sb (rf m),Sa O (k+1) c6,Sb (Y6 (U3 (b_ c t.data.toList)) W)]):=k2.o.set 1 _;have O7:Hid ((R.setCell ⟨A,1,none⟩ (Sa O (k+1) c6)).ownsRow E.heap.size 235 3 (Sa O (k+1) c6) (k+1) (SG W (ls.take (k+1)))):=by
  show World.ownsRow _ _ _ _ _ _ _;rw[HT.o,II];exact Tv H6 _ _ hAw
 have B7:But A E (R.setCell ⟨A,1,none⟩ (Sa O (k+1) c6)):=B6.setCell 1 _;refine Ah Y0 ?_ _;go_wp2;go_roundw;exact⟨k+1,Sa O (k+1) c6,O0,by go_num,C7,O7,B7⟩;exact V9
def hx(b:UInt8):Int:=if 48<=(b.toNat:Int)/\(b.toNat:Int)<=57 then(b.toNat:Int)-48 else if 97<=(b.toNat:Int)/\(b.toNat:Int)<=102 then(b.toNat:Int)-97+10 else -1
theorem a0b(h:a=b):Sf (Sc Se a)=Sf (Sc Se b):=by rw[h]
theorem c198(c:UInt8)(w:World):
 Calls prog 198 #[.int .u8 c.toNat] w λe w'=>e=Sf (Sc Se (hx c))/\w'=w:=by
 have hc:=Nu c;have a:Hid (hx c=if 48<=(c.toNat:Int)/\(c.toNat:Int)<=57 then(c.toNat:Int)-48 else if 97<=(c.toNat:Int)/\(c.toNat:Int)<=102 then(c.toNat:Int)-97+10 else -1):=rfl;generalize (c.toNat:Int)=n at*
 go_in
 go_wp2
 all_goals go_ret
 all_goals refine⟨a0b ?_,rfl⟩
 all_goals rw[a.o]
 all_goals(repeat' split)
 all_goals omega
theorem VD(b:UInt8):(Lib.indexByte hexL b=-1/\∀n,n<16->hexL.getD n 0≠b)\/∃n:Nat,n<16/\Lib.indexByte hexL b=n/\hexL.getD n 0=b:=by
 have hge:=Lib.indexByte_ge hexL b;by_cases h:Lib.indexByte hexL b=-1
 ·refine .inl ⟨h,λn a e=>Lib.indexByte_none h n ?_⟩;have hl:n<hexL.length:=a;rw[<- e];simp[List.getD,V8 hl]
 obtain⟨o,ho⟩:∃o:Nat,Lib.indexByte hexL b=o:=⟨(Lib.indexByte hexL b).toNat,O0⟩;obtain⟨h1,_⟩:=Lib.indexByte_some ho;have hl:o<hexL.length:=by
  rcases Z7 o hexL.length with h|h
  ·exact h
  rw[Eb h]at h1;cases h1
 exact .inr ⟨o,hl,ho,by simp[List.getD,h1]⟩
theorem a2j(b:UInt8)(w:World):
 Calls prog 340 #[Sb ⟨#[48,49,50,51,52,53,54,55,56,57,97,98,99,100,101,102]⟩,.int .u8 b.toNat] w λe w'=>e=Sf (Sc Se (Lib.indexByte hexL b))/\w'=w:=by
 refine(Tryz.strings_IndexByte _ _ w).mono ?_;rintro e w'⟨rfl,rfl⟩;refine⟨a0b ?_,rfl⟩;have e1:(b.toNat:Int).toNat.toUInt8=b:=J4;rw[e1];rfl
theorem wW{x y:Bool}(h:a=b)(c:x=y):Sf (.tuple #[.int .u8 a,.bool x])=Sf (.tuple #[.int .u8 b,.bool y]):=by rw[h,c]
def xI(l:List UInt8)(c:UInt8)(ok:Bool):Prop:=(ok=true->U_ c=false/\∃r,l=qb c++r)/\(ok=false->∀d r,U_ d=false->l≠qb d++r)
theorem VQ:∀h l:Fin 16,bits BinOp.or IntKind.i64 (((h.val:Nat):Int)*16) ((l.val:Nat):Int)=16*((h.val:Nat):Int)+((l.val:Nat):Int):=by decide +kernel
theorem tX(h l:Nat)(a:h<16)(hl:l<16):bits BinOp.or IntKind.i64 ((h:Int)*16) (l:Int) % 256=((UInt8.ofNat (16*h+l)).toNat:Int):=by
 have:=VQ ⟨h,a⟩ ⟨l,hl⟩;simp only at this;rw[this];simp
theorem UH(h l:Nat)(hh:h<16)(hl:l<16):(UInt8.ofNat (16*h+l)).toNat / 16=h/\(UInt8.ofNat (16*h+l)).toNat % 16=l:=by
 have e:(UInt8.ofNat (16*h+l)).toNat=16*h+l:=L8;rw[e];omega
theorem XA(s:BY)(h:2<s.size):∃r,s.data.toList=s[0]::s[1]::s[2]::r:=by
 have hl:s.data.toList.length=s.size:=J4;have g:∀(k:Nat)(hk:k<s.size),s.data.toList[k]'(by simpa using hk)=s[k]:=λk hk=>by simp[iK]
 rcases hd:s.data.toList with _|⟨a,_|⟨b,_|⟨c,r⟩⟩⟩
 ·rw[hd]at hl;simp at hl;omega
 ·rw[hd]at hl;simp at hl;omega
 ·rw[hd]at hl;simp at hl;omega
 have g0:=g 0 O0;have g1:=g 1 O0;have g2:=g 2 h;simp only[hd,List.getElem_cons_zero,List.getElem_cons_succ]at g0 g1 g2;exact⟨r,by rw[<- g0,<- g1,<- g2]⟩
theorem xB{s:BY}(h:2<s.size)(a:s[0]≠92\/(∀n,n<16->hexL.getD n 0≠s[1])\/(∀n,n<16->hexL.getD n 0≠s[2]))(c:UInt8):xI s.data.toList c false:=by
 refine⟨(λh=>by cases h),λ_ d r hd e=>?_⟩;obtain⟨q,b⟩:=XA s h;rw[b,Ag hd]at e;simp only[jd,Y9,Yi]at e;have ld:=Nu d;rcases a with a|a|a
 ·exact a e.1
 ·exact a _ O0 e.2.1.symm
 exact a _ O0 e.2.2.1.symm
def a4z(l:List UInt8)(e:Ending):Prop:=∃c ok,e=Sf (.tuple #[.int .u8 (c:UInt8).toNat,.bool ok])/\xI l c ok
theorem a5z(s:BY)(w:World)(hs:s.size<=1048700):
 Calls prog 302 #[Sb s] w λe w'=>a4z s.data.toList e/\w'=w:=by
 by_cases h3:s.size<3
 ·have a:Hid (xI s.data.toList 0 false):=by
   refine⟨(λh=>by cases h),λ_ d r hd e=>?_⟩;have:=G7 List.length e;rw[Ag hd]at this;simp at this;omega
  go_in
  go_wp2;go_ret2;exact⟨⟨0,false,rfl,a⟩,rfl⟩
 have hz0:0<s.size:=O0;have hz1:1<s.size:=O0;have f:2<s.size:=O0;by_cases j:s[0]=92
 ·have e0:((s[0].toNat:Int) !=92)=false:=by rw[j];rfl
  have x:=U0 j
  go_in
  go_wp2_with fail
  refine(a2j _ _).mono ?_;rintro e w'⟨rfl,rfl⟩
  go_wp2_with fail
  refine(a2j _ _).mono ?_;rintro e w'⟨rfl,rfl⟩;rcases VD s[1] with⟨m,i⟩|⟨h,n,m,i⟩
  ·have a:=U0 (xB f (.inr (.inl i)) 0);rw[m];go_wp2;go_ret2;exact⟨⟨0,false,rfl,a⟩,rfl⟩
  rw[m];rcases VD s[2] with⟨lo,g⟩|⟨l,hl,lo,g⟩
  ·have a:=U0 (xB f (.inr (.inr g)) 0);rw[lo];go_wp2;go_ret2;exact⟨⟨0,false,rfl,a⟩,rfl⟩
  rw[lo];have ho:=tX h l n hl;obtain⟨p,o⟩:=UH h l n hl;have v:Hid (U_ (UInt8.ofNat (16*h+l))=false->qb (UInt8.ofNat (16*h+l))=([92,s[1],s[2]]:List UInt8)):=λb=>by
   rw[Ag b,p,o,i,g]
  have u:Hid (U_ (UInt8.ofNat (16*h+l))=true->∀d r,U_ d=false->s.data.toList≠qb d++r):=λb d r hd e=>by
   obtain⟨q,k⟩:=XA s f;rw[k,Ag hd]at e;simp only[jd,Y9,Yi]at e;have ld:=Nu d;have e1:=Jz O0 n (e.2.1.symm.trans i.symm);have e2:=Jz O0 hl (e.2.2.1.symm.trans g.symm);have t:d=UInt8.ofNat (16*h+l):=uj.1 (by have:=Nu (UInt8.ofNat (16*h+l));omega);rw[<- t,hd]at b;cases b
  generalize UInt8.ofNat (16*h+l)=c at*
  go_wp2_with fail
  rw[ho];refine(a3B c _).mono ?_;rintro e w'⟨rfl,hw⟩;obtain rfl:=hw.symm;cases b:U_ c
  ·have a:Hid (xI s.data.toList c true):=by
    refine⟨λ_=>⟨b,?_⟩,(λh=>by cases h)⟩;obtain⟨q,k⟩:=XA s f;exact⟨q,by rw[k,v.o b,x.o];rfl⟩
   go_wp2;go_ret2;exact⟨⟨c,true,wW rfl rfl,a⟩,rfl⟩
  have a:Hid (xI s.data.toList 0 false):=⟨(λh=>by cases h),λ_=>u.o b⟩;go_wp2;go_ret2;exact⟨⟨0,false,rfl,a⟩,rfl⟩
 have a:=U0 (xB f (.inl j) 0);have e0:((s[0].toNat:Int) !=92)=true:=by
  simp only[ru];intro e;exact j (uj.1 (by
   have:s[0].toNat=92:=O0;rw[this];rfl))
 go_in
 go_wp2;go_ret2;exact⟨⟨0,false,rfl,a⟩,rfl⟩
def g_(l:List UInt8):Nat->List UInt8
 | 0=>l
 | k+1=>Y2 (g_ l k)
def Q_(l:List UInt8)(k:Nat):List (List UInt8):=(List.range k).map λj=>Y1 (g_ l j)
theorem Gl(l:List UInt8)(k:Nat):Q_ l (k+1)=Q_ l k++[Y1 (g_ l k)]:=by simp[Q_,fC]
theorem X8(l:List UInt8):(Y1 l).length<=l.length/\(Y2 l).length<=l.length:=by
 unfold Y1 Y2;refine⟨(List.takeWhile_sublist _).length_le,?_⟩;have:=(List.dropWhile_sublist (l:=l) (· !=32)).length_le;simp only[Oj];omega
theorem Gj(l:List UInt8)(k:Nat):(g_ l k).length<=l.length:=by
 induction k with
 | zero=>exact Y7 _
 | succ k ih=>exact X7 (X8 _).2 ih
theorem oH(n:Int)(h0:0<=n)(h1:n<=1000000):(U3 (dec n)).size<=100000001:=by rw[I5];exact VL n h0 O0
theorem vg(s:BY):(U3 (Z5 s.data.toList)).size<=3*s.size+2:=by
 rw[I5];have:=Dv s.data.toList;have e:s.data.toList.length=s.size:=J4;unfold Z5;simp only[f_,Q9,Fb];omega
def Ec(c:Int)(t:BY):List UInt8:=dec c++[32]++Z5 t.data.toList
theorem EW(c:Int)(t:BY):U3 (dec c)++⟨#[32]⟩++U3 (Z5 t.data.toList)=U3 (Ec c t):=by
 show U3 (dec c)++U3 [32]++U3 (Z5 t.data.toList)=_;rw[Xc,Xc];rfl
theorem a1r(c:Int)(t:BY)(w:World)(h:0<=c)(hc1:c<=1000)(ht:t.size<=1048600):
 Calls prog 204 #[.agg #[Sc Se c,Sb t]] w λe w'=>e=Sf (Sb (U3 (Ec c t)))/\Bw w w':=by
 have z1:=oH c h O0;have z2:=vg t;have o:=U0 (EW c t);have k1:¬9223372036854775807<(U3 (dec c)).size+1:=O0;have k1':¬9223372036854775807<=(U3 (dec c)).size:=O0;have k2:¬9223372036854775807<(U3 (dec c)).size+1+(U3 (Z5 t.data.toList)).size:=O0
 go_in
 go_wp2_with fail
 have k:Bw w (w.alloc (Sg #[vI c,vS t] 117)):=U6;have d:w.heap.size<(w.alloc (Sg #[vI c,vS t] 117)).heap.size:=J4;have n:(w.alloc (Sg #[vI c,vS t] 117)).cell? (aW w 0)=some (vI c):=by simp[go_sem]
 have a1:(w.alloc (Sg #[vI c,vS t] 117)).cell? (aW w 1)=some (vS t):=by simp[go_sem]
 generalize (w.alloc (Sg #[vI c,vS t] 117))=V at*;refine wp_region_held_drew (S:=(λu=>u.cell? (aW w 0)=some (vI c)/\u.cell? (aW w 1)=some (vS t))) Y0 ?_ λhHeld=>?_
 · ((try dsimp only);go_keep)
 refine y_ 0 ?_;refine y_ 1 ?_;refine y_ 4 ?_;refine y_ 5 ?_;refine rq 2 λK a=>?_;go_simp;refine(a1e (c.toNat+1) c _ h O0 (Vj _)).mono ?_;rintro e w1⟨rfl,j⟩;have b:Hid (Bw V w1):=((O4 _ _).drew).trans j;have b0:=(b.o.cell (by exact d)).trans n;have m:=(b.o.cell (by exact d)).trans a1;clear j
 go_wp2_with fail
 clear hHeld;refine uT a λhHeld=>?_;clear a K;refine sq ?_;refine rq 6 λK a=>?_;go_simp;refine(NM t _ O0).mono ?_;rintro e w2⟨rfl,i⟩;have f:=U0 i;have g:=P9 d b.o.size;have d0:=(f.o.cell (by exact g)).trans b0;have d1:=(f.o.cell (by exact g)).trans m;clear i
 go_wp2_with fail
 clear hHeld;refine uT a λhHeld=>?_;clear a K
 iterate 2 refine sq ?_
 refine wdn ?_;have l:=(E5 k b.o).trans (f.o.mono (E5 k b.o).size);clear hHeld;go_wp2;go_ret;exact⟨by rw[<- o.o];rfl,l⟩
