import Derived.Test.YtbgdfcmeheaiiaaGreatDoorK4
import Derived.Test.YtbgdfcmeheaiiaaGreatDoorkH
import Derived.Deep.Cut
import Derived.Deep.CutRange
import Derived.Maps.OwnRows
set_option linter.unusedVariables false
set_option linter.unusedSimpArgs false
set_option maxHeartbeats 8000000
set_option maxRecDepth 100000
namespace Go.Proofs.YtbgdfcmeheaiiaaGreatDoor
open Proofs.Tryz Go.RowKit
variable{u u' w w':World}{B H N b bP bR bT base e n size:Nat}{v z:Value}{rv vs xs:List Value}{k:BY}{R:Value->Option (DataW Value×List MemPlace)}{D:DataW Value}{l pl:List (ByteArray×Value)}{t:TypeId}{ops:Array Oper}{o:Oper}{a:Act}{K:Act->World->Prop}{Q:Exit->Act->World->Prop}{E:Prop}{row:Option Nat}{W:Int}{rs:List R3}{zs:List Int}
def bG(W:Int)(ls:List L4):List Value:=ls.flatMap λx=>[.bool x.has,.string x.nm,.string (G6 (iq x) W)]
theorem Oe(h:u.ownsRow base e size v n xs){k:Nat}(a:v.ownBlock=some k):k<u.heap.size:=by
 rcases h.2 with⟨hv,_⟩|⟨g,cap,cur,hv,hg,b,_⟩
 ·subst hv;simp[Value.ownBlock]at a
 subst hv;simp[Value.ownBlock]at a;obtain rfl:=a;exact(Ua.1 b).1
theorem aG(h:u.ownsRow base e size v n xs)(p:Addr)(x:Value)(hp:p.block<base):(u.setCell p x).ownsRow base e size v n xs:=by
 refine⟨h.1,h.2.imp id ?_⟩;rintro⟨g,c,cur,h1,h2,b,a⟩;exact⟨g,c,cur,h1,h2,(vz _ _ _ _ O0).trans b,a⟩
theorem jH(W:Int)(l:List L4)(x:L4):bG W (l++[x])=bG W l++[.bool x.has,.string x.nm,.string (G6 (iq x) W)]:=by simp[bG]
theorem own_below(h:u.ownsRow base e size v n xs)(b:Bw u u'):u'.ownsRow base e size v n xs:=by
 refine⟨h.1,h.2.imp id ?_⟩;rintro⟨g,d,cur,h1,h2,a,c⟩;exact⟨g,d,cur,h1,h2,(b.block g (Ua.1 a).1).trans a,c⟩
theorem Dv{R:Nat}(h:u.ownsRow base e size v n xs)(hs:u.heap.size<=u'.heap.size)(ho:∀k,k<u.heap.size->k≠R->u'.heap[k]?=u.heap[k]?)(hR:R<base):u'.ownsRow base e size v n xs:=by
 refine⟨h.1,h.2.imp id ?_⟩;rintro⟨g,c,cur,h1,h2,a,b⟩;exact⟨g,c,cur,h1,h2,(ho g (Ua.1 a).1 O0).trans a,b⟩
theorem a_{base':Nat}(h:u.ownsRow base e size v n xs)(a:base'<=base):u.ownsRow base' e size v n xs:=by
 refine⟨h.1,h.2.imp id ?_⟩;rintro⟨g,d,cur,h1,h2,c,b⟩;exact⟨g,d,cur,h1,Q8 a h2,c,b⟩
theorem a4w(m:M3)(ls:List L4)(c:Int)(t:BY)(W:Int)(H:Nat)(a:OA)(cap:Nat)(w:World)(hm:m.le 1048600)(ht:t.size<=1048700)(hf:(Y2 (S9 c t.data.toList)).size<=1048700)(hl:ls.length<=1048576)(hs:∀i,(ls.getD i l_).tx.size<=1048600/\(iq (ls.getD i l_)).size<=1048700)(hat:X6 w a ls)(hH:H<w.heap.size)(hW:w.cell? ⟨H,0,none⟩=some (.int .i64 W)):
 Calls prog 241 #[.pointer (some ⟨H,0,none⟩),.agg #[.string m.nm,.string m.tl,.string m.ar],.slice a ls.length cap,.agg #[.int .i64 c,.string t]] w λe w'=>(∃v,e=.returned (.agg #[.string (Fe m),v,.string (G6 (Y2 (S9 c t.data.toList)) W)])/\w'.ownsRow w.heap.size 256 3 v ls.length (bG W ls))/\Bw w w':=by
 have HL:=U0 hat
 go_in
 go_upto_region 1 with fail
 have hB0:Bw w (((w.alloc (.cells #[.string m.nm,.string m.tl,.string m.ar] 68)).alloc (.cells #[.int .i64 c,.string t] 71)).alloc (.cells #[.string ⟨#[]⟩,.slice none 0 0,.string ⟨#[]⟩] 176)):=(P6.alloc O4 _).alloc X7 _;have F:Hid ((Cl (((w.alloc (.cells #[.string m.nm,.string m.tl,.string m.ar] 68)).alloc (.cells #[.int .i64 c,.string t] 71)).alloc (.cells #[.string ⟨#[]⟩,.slice none 0 0,.string ⟨#[]⟩] 176)) w.heap.size 68 [.string m.nm,.string m.tl,.string m.ar]/\Cl (((w.alloc (.cells #[.string m.nm,.string m.tl,.string m.ar] 68)).alloc (.cells #[.int .i64 c,.string t] 71)).alloc (.cells #[.string ⟨#[]⟩,.slice none 0 0,.string ⟨#[]⟩] 176)) (w.heap.size+1) 71 [.int .i64 c,.string t]/\(((w.alloc (.cells #[.string m.nm,.string m.tl,.string m.ar] 68)).alloc (.cells #[.int .i64 c,.string t] 71)).alloc (.cells #[.string ⟨#[]⟩,.slice none 0 0,.string ⟨#[]⟩] 176)).cell? ⟨H,0,none⟩=some (.int .i64 W))/\Cl (((w.alloc (.cells #[.string m.nm,.string m.tl,.string m.ar] 68)).alloc (.cells #[.int .i64 c,.string t] 71)).alloc (.cells #[.string ⟨#[]⟩,.slice none 0 0,.string ⟨#[]⟩] 176)) (w.heap.size+2) 176 [.string ⟨#[]⟩,.slice none 0 0,.string ⟨#[]⟩]):=⟨⟨G8 (G8 (U3 w [.string m.nm,.string m.tl,.string m.ar] 68) _) _,G8 (by have h:=U3 (w.alloc (.cells #[.string m.nm,.string m.tl,.string m.ar] 68)) [.int .i64 c,.string t] 71;simpa using h) _,(hB0.cell (by exact hH)).trans hW⟩,by have h:=U3 ((w.alloc (.cells #[.string m.nm,.string m.tl,.string m.ar] 68)).alloc (.cells #[.int .i64 c,.string t] 71)) [.string ⟨#[]⟩,.slice none 0 0,.string ⟨#[]⟩] 176;simpa using h⟩;generalize ((w.alloc (.cells #[.string m.nm,.string m.tl,.string m.ar] 68)).alloc (.cells #[.int .i64 c,.string t] 71)).alloc (.cells #[.string ⟨#[]⟩,.slice none 0 0,.string ⟨#[]⟩] 176)=V at*;have hHV:=G9 hH hB0.size;have n:Hid (∀u,Bw V u->(Cl u w.heap.size 68 [.string m.nm,.string m.tl,.string m.ar]/\Cl u (w.heap.size+1) 71 [.int .i64 c,.string t]/\u.cell? ⟨H,0,none⟩=some (.int .i64 W))/\Cl u (w.heap.size+2) 176 [.string ⟨#[]⟩,.slice none 0 0,.string ⟨#[]⟩]/\Bw w u/\X6 u a ls):=λu r=>⟨⟨F.out.1.1.below r F.out.1.1.lt,F.out.1.2.1.below r F.out.1.2.1.lt,(r.cell (by exact hHV)).trans F.out.1.2.2⟩,F.out.2.below r F.out.2.lt,P5 hB0 r,Z4 HL (P5 hB0 r)⟩;have hVz:=F.out.2.lt
 go_cut[9] from 10 (λs wx=>∃A,s=.pointer (some ⟨A,0,none⟩)/\V.heap.size<=A/\Hid (Cl wx A 176 [.string (Fe m),.slice none 0 0,.string (G6 (Y2 (S9 c t.data.toList)) W)])/\Hid (Bw V wx))
 case first=>
  have d:Bw V V.drew:=(J4 _ _).drew;refine wp_region_held_drew (S:=λu=>Cl u w.heap.size 68 [.string m.nm,.string m.tl,.string m.ar]/\Cl u (w.heap.size+1) 71 [.int .i64 c,.string t]/\u.cell? ⟨H,0,none⟩=some (.int .i64 W)) Y0 (n.out _ d).1 λhH=>?_;generalize V.drew=y at*;refine tq 0 hH ?_ (hv:=λu r=>I7 68 _ rfl (B:=w.heap.size) (j:=0) (cs:=[.string m.nm,.string m.tl,.string m.ar]) rfl (λq v e=>by rw[l7];exact(r.1.cell q).trans e) underlying68 rfl Y0)
  try simp only[qq]
  refine tq 2 hH ?_ (hv:=λu r=>I7 71 _ rfl (B:=w.heap.size+1) (j:=0) (cs:=[.int .i64 c,.string t]) rfl (λq v e=>by rw[l7];exact(r.2.1.cell q).trans e) underlying71 rfl Y0)
  try simp only[qq]
  refine U8 4 ?_;refine U8 5 ?_;refine U8 6 ?_;refine U8 7 ?_;refine wpAnyH_ready (rs:=[1,10]) Y0 O4 ?_;refine AllReadyH.cons (o:=⟨some 13,.call ⟨.value (.func 296),#[.tmp 12],#[68]⟩,9,_,_,none⟩) rfl (λK f=>?_) (AllReadyH.cons (o:=⟨some 9,.alloc 176,0,_,_,none⟩) rfl (λK f=>?_) AllReadyH.nil);rotate_left
  focus
   go_simp;have g:=U0 (U3 y [.string ⟨#[]⟩,.slice none 0 0,.string ⟨#[]⟩] 176);have hA:=d.size
   replace d:=P5 d (P6 (w:=y) (o:=.cells #[.string ⟨#[]⟩,.slice none 0 0,.string ⟨#[]⟩] 176))
   refine X8 f (n _ d).1 λhH=>?_;generalize y.alloc (.cells #[.string ⟨#[]⟩,.slice none 0 0,.string ⟨#[]⟩] 176)=ya at*;refine rq 1 λK f=>?_;go_simp;refine(a1Y m _ hm).mono ?_;rintro e u0⟨rfl,l⟩
   replace g:=U0 (g.out.below l g.out.lt)
   replace d:=P5 d l
   go_simp;refine X8 f (n _ d).1 λhH=>?_;refine rq 3 λK f=>?_;go_simp;refine(OO c t _ ht).mono ?_;rintro e u1⟨rfl,l⟩
   replace g:=U0 (g.out.below l g.out.lt)
   replace d:=P5 d l
   go_simp;refine X8 f (n _ d).1 λhH=>?_;refine rq 8 λK f=>?_;go_simp;refine(c167 _ W _ hf).mono ?_;rintro e u2⟨rfl,l⟩
   replace g:=U0 (g.out.below l g.out.lt)
   replace d:=P5 d l
   go_simp;refine X8 f (n _ d).1 λhH=>?_;refine sq ?_;refine rq 11 λK f=>?_;refine Va rfl 176 _ _ rfl (j:=0) rfl rfl g Y8 (A8 rfl) Y0 ?_
  rotate_left
  focus
   go_simp;refine(a1Y m _ hm).mono ?_;rintro e u0⟨rfl,l⟩
   replace d:=P5 d l
   go_simp;refine X8 f (n _ d).1 λhH=>?_;refine wpAnyH_ready (rs:=[3,10]) Y0 O4 ?_;refine AllReadyH.cons (o:=⟨some 15,.call ⟨.value (.func 295),#[.tmp 14],#[71]⟩,9,_,_,none⟩) rfl (λK f=>?_) (AllReadyH.cons (o:=⟨some 9,.alloc 176,0,_,_,none⟩) rfl (λK f=>?_) AllReadyH.nil);rotate_left
   ·go_simp;have g:=U0 (U3 u0 [.string ⟨#[]⟩,.slice none 0 0,.string ⟨#[]⟩] 176);have hA:=d.size
    replace d:=P5 d (P6 (w:=u0) (o:=.cells #[.string ⟨#[]⟩,.slice none 0 0,.string ⟨#[]⟩] 176))
    refine X8 f (n _ d).1 λhH=>?_;generalize u0.alloc (.cells #[.string ⟨#[]⟩,.slice none 0 0,.string ⟨#[]⟩] 176)=ya at*;refine rq 3 λK f=>?_;go_simp;refine(OO c t _ ht).mono ?_;rintro e u1⟨rfl,l⟩
    replace g:=U0 (g.out.below l g.out.lt)
    replace d:=P5 d l
    go_simp;refine X8 f (n _ d).1 λhH=>?_;refine rq 8 λK f=>?_;go_simp;refine(c167 _ W _ hf).mono ?_;rintro e u2⟨rfl,l⟩
    replace g:=U0 (g.out.below l g.out.lt)
    replace d:=P5 d l
    go_simp;refine X8 f (n _ d).1 λhH=>?_;refine sq ?_;refine rq 11 λK f=>?_;refine Va rfl 176 _ _ rfl (j:=0) rfl rfl g Y8 (A8 rfl) Y0 ?_;intro z J D
    replace d:=d.trans (D.below hA)
    have Z:=U0 J;refine X8 f (n _ d).1 λhH=>?_;refine wdn ?_
    go_wp2_with fail
    go_meet
    exact⟨_,rfl,hA,Z,d⟩
   go_simp;refine(OO c t _ ht).mono ?_;rintro e u1⟨rfl,l⟩
   replace d:=P5 d l
   go_simp;refine X8 f (n _ d).1 λhH=>?_;refine wpAnyH_ready (rs:=[8,10]) Y0 O4 ?_;refine AllReadyH.cons (o:=⟨some 20,.call ⟨.value (.func 167),#[.tmp 15,.tmp 19],#[9,3]⟩,9,_,_,none⟩) rfl (λK f=>?_) (AllReadyH.cons (o:=⟨some 9,.alloc 176,0,_,_,none⟩) rfl (λK f=>?_) AllReadyH.nil);rotate_left
   ·go_simp;have g:=U0 (U3 u1 [.string ⟨#[]⟩,.slice none 0 0,.string ⟨#[]⟩] 176);have hA:=d.size
    replace d:=P5 d (P6 (w:=u1) (o:=.cells #[.string ⟨#[]⟩,.slice none 0 0,.string ⟨#[]⟩] 176))
    refine X8 f (n _ d).1 λhH=>?_;generalize u1.alloc (.cells #[.string ⟨#[]⟩,.slice none 0 0,.string ⟨#[]⟩] 176)=ya at*;refine rq 8 λK f=>?_;go_simp;refine(c167 _ W _ hf).mono ?_;rintro e u2⟨rfl,l⟩
    replace g:=U0 (g.out.below l g.out.lt)
    replace d:=P5 d l
    go_simp;refine X8 f (n _ d).1 λhH=>?_;refine sq ?_;refine rq 11 λK f=>?_;refine Va rfl 176 _ _ rfl (j:=0) rfl rfl g Y8 (A8 rfl) Y0 ?_;intro z J D
    replace d:=d.trans (D.below hA)
    have Z:=U0 J;refine X8 f (n _ d).1 λhH=>?_;refine wdn ?_
    go_wp2_with fail
    go_meet
    exact⟨_,rfl,hA,Z,d⟩
   go_simp;refine(c167 _ W _ hf).mono ?_;rintro e u2⟨rfl,l⟩
   replace d:=P5 d l
   go_simp;refine X8 f (n _ d).1 λhH=>?_;refine sq ?_;refine rq 10 λK f=>?_;go_simp;have g:=U0 (U3 u2 [.string ⟨#[]⟩,.slice none 0 0,.string ⟨#[]⟩] 176);have hA:=d.size
   replace d:=P5 d (P6 (w:=u2) (o:=.cells #[.string ⟨#[]⟩,.slice none 0 0,.string ⟨#[]⟩] 176))
   refine X8 f (n _ d).1 λhH=>?_;generalize u2.alloc (.cells #[.string ⟨#[]⟩,.slice none 0 0,.string ⟨#[]⟩] 176)=ya at*;refine rq 11 λK f=>?_;refine Va rfl 176 _ _ rfl (j:=0) rfl rfl g Y8 (A8 rfl) Y0 ?_
  all_goals
   intro z J D
   replace d:=d.trans (D.below hA)
   have Z:=U0 J;refine X8 f (n _ d).1 λhH=>?_;refine wdn ?_
   go_wp2_with fail
   go_meet
   exact⟨_,rfl,hA,Z,d⟩
 obtain⟨A,rfl,hA,g,BV⟩:=hcut;obtain⟨_,CR,BW,_⟩:=n.out _ BV.out;obtain⟨b,off,hc⟩:=Ie (n.out V (J4 _ _)).2.2.2;have BE:=U0 BV.out;have fH:=(n _ BV).1.2.2;have HR:=U0 CR;have HB:=U0 BW;have hHw:=G9 hHV BV.out.size;have hAw:=g.out.lt;have hRw:=CR.lt;have FH:=U0 fH;generalize wc=E at*;have HK:=U0 hc;go_wp2;go_loopw[24] (λi wr=>∃(k:Nat)(v:Value),k<=ls.length/\i=.int .i64 k/\Hid (Cl wr A 176 [.string (Fe m),v,.string (G6 (Y2 (S9 c t.data.toList)) W)])/\Hid (wr.ownsRow E.heap.size 256 3 v k (bG W (ls.take k)))/\But A E wr) (λi _=>ls.length-(RowKit.intOf i).toNat);exact⟨0,.slice none 0 0,I4 _,rfl,g,og _ _ _ _,But.refl _ _⟩;obtain⟨k,v,hk,rfl,CAr,Y,BT⟩:=hrel;obtain⟨X,U,rfl⟩:=Z9 Y.out;have sz:=BT.size;by_cases N:k<ls.length;rotate_left
 ·obtain rfl:k=ls.length:=O0;have CR:=U0 ((BT.block (w.heap.size+2) O0 O0).trans HR)
  go_wp2_with(first|(refine Ub CAr.out rfl 176 _ rfl rfl underlying176 rfl Y0 ?_)|(refine N8 rfl 176 _ _ rfl (j:=0) rfl rfl CR.out Y8 (A8 rfl) Y0 ?_;intro z J D))
  refine o7 (I8 (P:=prog) (ty:=176) rfl _ z (w.heap.size+2) [.string (Fe m),.slice X ls.length U,.string (G6 (Y2 (S9 c t.data.toList)) W)] _ rfl J.blk underlying176 rfl Y0) rfl ⟨⟨_,rfl,?_⟩,(HB.out.trans (BT.below O0 O0)).trans (D.below O0)⟩;have h:=Y.out;rw[qp]at h;exact a_ (Dv h (Zj D.size.symm) (λq _ hne=>D.block q hne) O0) O0
 obtain⟨ha,hbw,hcell⟩:=Zb HK.out N;subst ha;have GB:Hid (∀i v,([.bool (ls.getD k l_).has,.string (ls.getD k l_).nm,.int .i64 (ls.getD k l_).cd,.string (ls.getD k l_).tx]:List Value)[i]?=some v->wr.cell? ⟨b,off+k*4+i,none⟩=some v):=λi v e=>by
  rw[BT.cell (p:=⟨b,off+k*4+i,none⟩) (G9 hbw BE.out.size) (by show b≠A;omega),BE.out.cell (p:=⟨b,off+k*4+i,none⟩) hbw]
  match i,e with
  | 0,e=>cases e;exact(hcell k N).1
  | 1,e=>cases e;exact(hcell k N).2.1
  | 2,e=>cases e;exact(hcell k N).2.2.1
  | 3,e=>cases e;exact(hcell k N).2.2.2
 have HT:=U0 (Yu N);have hxs:=hs k;have hDn:=U0 (λq L=>Oe Y (k:=q) L);have hOb:=U0 (λq L=>Y6 Y (k:=q) L);generalize ls.getD k l_=x at*
 go_upto_region 5 with(first|(refine b_ rfl (I7 201 _ rfl (B:=b) (j:=off+k*4) (cs:=[.bool x.has,.string x.nm,.int .i64 x.cd,.string x.tx]) rfl GB.out underlying201 rfl Y0) ?_)|(refine N8 rfl 201 _ _ rfl (j:=0) rfl rfl (U3 wr [.bool false,.string ⟨#[]⟩,.int .i64 0,.string ⟨#[]⟩] 201) Y8 (A8 rfl) Y0 ?_;intro uA cx ox))
 have bA:=P6.trans (ox.below Y8);have Q:Hid (∀u,Bw uA u->(Cl u wr.heap.size 201 [.bool x.has,.string x.nm,.int .i64 x.cd,.string x.tx]/\Cl u A 176 [.string (Fe m),.slice X k U,.string (G6 (Y2 (S9 c t.data.toList)) W)])/\u.ownsRow E.heap.size 256 3 (.slice X k U) k (bG W (ls.take k))/\But A E u/\wr.heap.size<u.heap.size/\u.cell? ⟨H,0,none⟩=some (.int .i64 W)):=λu r=>have h:=P5 bA r;have hB:=BT.trans (But.of_below h);⟨⟨cx.below r cx.lt,CAr.out.below h CAr.out.lt⟩,own_below Y h,hB,G9 cx.lt r.size,(hB.cell (p:=⟨H,0,none⟩) hHw (by show H≠A;omega)).trans FH⟩
 have C:Bw uA uA.drew:=(J4 _ _).drew;refine Tn 8 (S:=λu=>Cl u wr.heap.size 201 [.bool x.has,.string x.nm,.int .i64 x.cd,.string x.tx]/\Cl u A 176 [.string (Fe m),.slice X k U,.string (G6 (Y2 (S9 c t.data.toList)) W)]) Y0 (Q _ C).1 λhH=>?_;generalize uA.drew=y at*;refine lq 0 hH ?_
 try simp only[qq]
 refine lq 1 hH ?_ (hv:=λu r=>Qn 174 _ rfl (B:=A) (j:=1) rfl (r.2.cell 1) Y0)
 try simp only[qq]
 refine lq 2 hH ?_
 try simp only[qq]
 refine lq 3 hH ?_ (hv:=λu r=>I7 201 _ rfl (B:=wr.heap.size) (j:=0) (cs:=[.bool x.has,.string x.nm,.int .i64 x.cd,.string x.tx]) rfl (λq v e=>by rw[l7];exact(r.1.cell q).trans e) underlying201 rfl Y0)
 try simp only[qq]
 refine lr (i:=4) (o:=⟨some 32,.call ⟨.value (.func 297),#[.tmp 30,.tmp 31],#[202,201]⟩,256,_,_,none⟩) rfl J6 Y0 λK f=>?_;go_simp;refine(a3w x W H y hxs.1 (by have:=(Q.out _ C).2.2.1.size;omega) (Q _ C).2.2.2.2 hxs.2).mono ?_;rintro e u1⟨rfl,l⟩
 replace C:=P5 C l
 go_simp;refine X8 f (Q _ C).1 λhH=>?_;refine lr (i:=5) (o:=⟨some 33,.buildSlice 174 1 #[(0,.tmp 32)],174,_,_,none⟩) rfl J6 Y0 λK f=>?_;go_simp;have HS:=U0 (U3 u1 [.bool x.has,.string x.nm,.string (G6 (iq x) W)] 256)
 replace C:=P5 C (P6 (w:=u1) (o:=.cells #[.bool x.has,.string x.nm,.string (G6 (iq x) W)] 256))
 refine X8 f (Q _ C).1 λhH=>?_;generalize u1.alloc (.cells #[.bool x.has,.string x.nm,.string (G6 (iq x) W)] 256)=u2 at*;obtain⟨⟨c1,c2⟩,h3,I,h5,_⟩:=Q.out _ C;refine lr (i:=6) (o:=⟨some 34,.call ⟨.builtin .append,#[.tmp 29,.tmp 33],#[174,174]⟩,174,_,_,none⟩) rfl J6 Y0 λK f=>?_;refine Qc rfl _ _ 174 rfl E.heap.size 256 3 underlying174 (Um Y0) J6 _ k (bG W (ls.take k)) rfl h3 _ 1 [.bool x.has,.string x.nm,.string (G6 (iq x) W)] rfl (.inr ⟨⟨u1.heap.size,0,none⟩,1,rfl,rfl,jm HS⟩) (A8 rfl) O0 I.size ?_;intro v' R O6 g6 _;obtain⟨O,c16,rfl⟩:=Z9 O6;have k1:=U0 ((g6.block wr.heap.size h5 (λh=>by have:=hDn.out wr.heap.size h.symm;omega)).trans c1);have k2:Hid (Cl R A 176 [.string (Fe m),.slice X k U,.string (G6 (Y2 (S9 c t.data.toList)) W)]):=(g6.block A c2.lt (λh=>by have:=hOb.out A h.symm;omega)).trans c2;have B6:But A E R:=⟨g6.os.trans I.os,g6.tape.trans I.tape,g6.output.trans I.output,Q8 I.size g6.size,λq L hne=>(g6.block q (G9 L I.size) (λh=>by have:=hOb.out q h.symm;omega)).trans (I.block q L hne)⟩;have H6:=U0 O6;refine X8 f ⟨k1,k2⟩ λhH=>?_;refine lq 7 hH ?_
 try simp only[qq]
 refine lz (o:=⟨none,.store 174 (.tmp 35) (.tmp 34),0,_,_,none⟩) rfl Y0 λK f=>?_;refine YF rfl (AA 174 _ _ rfl (B:=A) (j:=1) rfl rfl ⟨_,k2.out.cell 1⟩ (k2.out.opn 1) Y0) ?_;refine f _ _ ?_
 try simp only[qq]
 have C7:Hid (Cl (R.setCell ⟨A,1,none⟩ (.slice O (k+1) c16)) A 176 [.string (Fe m),.slice O (k+1) c16,.string (G6 (Y2 (S9 c t.data.toList)) W)]):=k2.out.set 1 _;have O7:Hid ((R.setCell ⟨A,1,none⟩ (.slice O (k+1) c16)).ownsRow E.heap.size 256 3 (.slice O (k+1) c16) (k+1) (bG W (ls.take (k+1)))):=by
  show World.ownsRow _ _ _ _ _ _ _;rw[HT.out,jH];exact aG H6 _ _ hAw
 have B7:But A E (R.setCell ⟨A,1,none⟩ (.slice O (k+1) c16)):=B6.setCell 1 _;refine lu Y0 ?_ _;go_wp2;go_roundw;exact⟨k+1,.slice O (k+1) c16,O0,by go_num,C7,O7,B7⟩;exact P9
open Go.RowKit Go.Maps
theorem Gx:Keyed prog 9:=string_keyed underlying9
theorem a1B:Keyed prog 3:=int_keyed underlying3
theorem keyS(h:k.size<=maxLen):keyOf prog 9 (.string k)=some (kS k):=Go.WideMaps.keyOf_string_mk underlying9 h
theorem a2s{i:Nat}(h:i<=1048576):keyOf prog 3 (.int .i64 i)=some (.int .i64 i):=keyOf_int_mk underlying3 (WalkArith.wf_i64 O0)
theorem Ej{k:TypeId}(h:w.ownsMap prog k R b n D):w.ownsMap prog k R b (Maps.size D) D:=by
 obtain⟨es,d,c,F,hs,a⟩:=h;refine⟨es,d,c,F,?_,a⟩;rw[a,size_eq,length_sorted];simp
theorem Yc{k:TypeId}(h:w.ownsMap prog k R b n D)(c:Below N w w')(d:b<N):w'.ownsMap prog k R b n D:=by
 obtain⟨es,e,a,r⟩:=h;exact⟨es,e,(c.block b d).trans a,r⟩
theorem Uh{k:TypeId}(h:w.ownsMap prog k R b n D):∃es a,w.heap[b]?=some (.map es a):=by
 obtain⟨es,a,c,r⟩:=h;exact⟨es,a,c⟩
theorem QD{d:DataW Value}{ps:List MemPlace}(h:Oa v=some (d,ps)):d=.held v:=by
 unfold Oa at h;simp only[Au,UI]at h;exact h.1.symm
theorem xC{e:TypeId}(h:w.ownsMap prog 9 Oa b n (mapD l))(ht:prog.underlying t=some (.map 9 e))(a:(zeroValue e).run prog w=.ok z w)(c:k.size<=maxLen):
 (Instr.lookup t (.map (some b)) (.string k) true).run prog w=.ok (.tuple #[(Z_ l k).getD z,.bool (Z_ l k).isSome]) w:=by
 obtain⟨v,ps,hr,hv⟩:=h.look_ok Gx ht a (zd:=.held z) (zp:=[]) rfl (keyS c);have hd:=QD hv;rw[JL]at hd;rw[uQ]at hr;rw[hr]
 cases hg:Z_ l k with
 | none=>rw[hg]at hd;simp at hd;rw[hd];rfl
 | some u=>rw[hg]at hd;simp at hd;rw[hd];rfl
theorem wI{e:TypeId}(h:w.ownsMap prog 9 Oa b n (mapD l))(ht:prog.underlying t=some (.map 9 e))(a:(zeroValue e).run prog w=.ok z w)(c:k.size<=maxLen):
 (Instr.lookup t (.map (some b)) (.string k) false).run prog w=.ok ((Z_ l k).getD z) w:=by
 obtain⟨v,ps,hr,hv⟩:=h.lookup Gx ht a (zd:=.held z) (zp:=[]) rfl (keyS c);have hd:=QD hv;rw[JL]at hd;rw[hr]
 cases hg:Z_ l k with
 | none=>rw[hg]at hd;simp at hd;rw[hd];rfl
 | some u=>rw[hg]at hd;simp at hd;rw[hd];rfl
theorem jQ{e:TypeId}{k:Nat}(h:w.ownsMap prog 3 Oa b n (intD vs))(ht:prog.underlying t=some (.map 3 e))(a:(zeroValue e).run prog w=.ok z w)(d:k<=1048576)(c:k<vs.length):
 (Instr.lookup t (.map (some b)) (.int .i64 k) false).run prog w=.ok (vs.getD k undef) w:=by
 obtain⟨v,ps,hr,hv⟩:=h.lookup a1B ht a (zd:=.held z) (zp:=[]) rfl (a2s d);have hd:=QD hv;rw[sW,D8 c]at hd;simp at hd;rw[hr,Fj,hd]
theorem a4X{e:TypeId}(h:w.ownsMap prog 9 Oa b n (mapD l))(ht:prog.underlying t=some (.map 9 e))(a:n<maxLen)(c:k.size<=maxLen):
 ∃w',(Instr.mapUpdate t (.map (some b)) (.string k) v).run prog w=.ok () w'/\w'.ownsMap prog 9 Oa b (n+1) ((mapD l).put (kS k) (.held v))/\w.grownBy w' (some b):=
 h.update Gx ht a (keyS c) (d:=.held v) (ps:=[]) rfl
theorem a3W{e:TypeId}(h:w.ownsMap prog 3 Oa b n (intD vs))(ht:prog.underlying t=some (.map 3 e))(c:n<maxLen)(f:vs.length<=1048576):
 ∃w',(Instr.mapUpdate t (.map (some b)) (.int .i64 vs.length) v).run prog w=.ok () w'/\w'.ownsMap prog 3 Oa b (vs++[v]).length (intD (vs++[v]))/\w.grownBy w' (some b):=by
 obtain⟨w',h1,h2,g⟩:=h.update a1B ht c (a2s f) (d:=.held v) (ps:=[]) rfl;rw[AU]at h2;have a:=Ej h2;rw[Bl]at a;exact⟨w',h1,a,g⟩
theorem VQ(i:o.guard=none)(t:TypeId)(m x v:Operand)(ho:o.op=Op.mapUpdate t m x v){b n:Nat}{vs:List Value}{e:TypeId}{vv:Value}
 (hm:a.eval m=.map (some b)) (hx:a.eval x=.int .i64 vs.length) (hv:a.eval v=vv) (h:w.ownsMap prog 3 Oa b n (intD vs)) (ht:prog.underlying t=some (.map 3 e)) (f:n<maxLen) (g:vs.length<=1048576) (d:o.dst=none)
 (j:∀w',w'.ownsMap prog 3 Oa b (vs++[vv]).length (intD (vs++[vv]))->w.grownBy w' (some b)->K a w'):
 if Region.wanted o (yielded ops a.tmps)=true then Oper.wp prog o a w K Q else E:=by
 have hw:Region.wanted o (yielded ops a.tmps)=true:=by simp[Region.wanted,i]
 rw[D8 hw];obtain⟨w',hr,h1,h2⟩:=a3W (v:=vv) h ht f g;have c:=j w' h1 h2;unfold Oper.wp;simp[execOp,ho,hm,hx,hv,hr,Result.andThen]
 first
  | exact c
  | (simp only[Oper.upon];exact c)
  | (simp only[Oper.upon,d];exact c)
  | (simp only[Act.put,d];exact c)
theorem xA(i:o.guard=none)(t:TypeId)(m x v:Operand)(ho:o.op=Op.mapUpdate t m x v){b n:Nat}{l:List (ByteArray×Value)}{k:BY}{e:TypeId}{vv:Value}
 (hm:a.eval m=.map (some b)) (hx:a.eval x=.string k) (hv:a.eval v=vv) (h:w.ownsMap prog 9 Oa b n (mapD l)) (ht:prog.underlying t=some (.map 9 e)) (f:n<maxLen) (g:k.size<=maxLen) (d:o.dst=none)
 (j:∀w',w'.ownsMap prog 9 Oa b (n+1) ((mapD l).put (kS k) (.held vv))->w.grownBy w' (some b)->K a w'):
 if Region.wanted o (yielded ops a.tmps)=true then Oper.wp prog o a w K Q else E:=by
 have hw:Region.wanted o (yielded ops a.tmps)=true:=by simp[Region.wanted,i]
 rw[D8 hw];obtain⟨w',hr,h1,h2⟩:=a4X (v:=vv) h ht f g;have c:=j w' h1 h2;unfold Oper.wp;simp[execOp,ho,hm,hx,hv,hr,Result.andThen]
 first
  | exact c
  | (simp only[Oper.upon];exact c)
  | (simp only[Oper.upon,d];exact c)
  | (simp only[Act.put,d];exact c)
def YB(B:Nat)(w:World)(v:Value)(x:R3):Prop:=∃a c,v=.agg #[.string x.key,.slice a x.gs.length c,.string x.out]/\W_ w a x.gs/\(x.gs=[]\/∃b off,a=some ⟨b,off,none⟩/\(b<B\/∃cur fr,w.heap[b]?=some (.cells cur 256 fr)))
def KL(B:Nat)(w:World)(row:Option Nat):Prop:=∀j,row=some j->B<=j/\∀cur fr,w.heap[j]?≠some (.cells cur 256 fr)
theorem YB.kept{x:R3}(h:YB B w v x)(m:w.grownBy w' row)(hr:KL B w row):YB B w' v x:=by
 obtain⟨a,c,hv,q,p⟩:=h;rcases p with f|⟨b,off,ha,d⟩
 ·exact⟨a,c,hv,.inl f,.inl f⟩
 rcases q with f|⟨b',k,j,l,hc⟩
 ·exact⟨a,c,hv,.inl f,.inl f⟩
 obtain⟨rfl,rfl⟩:b'=b/\k=off:=by rw[ha]at j;simp at j;exact⟨j.1.symm,j.2.symm⟩
 have n:some b'≠row:=λe=>by
  have:=hr b' e.symm;rcases d with d|⟨cur,fr,d⟩
  ·omega
  exact this.2 cur fr d
 have g:=m.block b' l n;refine⟨a,c,hv,.inr ⟨b',k,ha,G9 l m.size,λi o=>?_⟩,.inr ⟨b',k,ha,?_⟩⟩
 ·obtain⟨h0,h1,h2⟩:=hc i o;refine⟨?_,?_,?_⟩
  ·rw[<- h0];simp only[World.cell?,g]
  ·rw[<- h1];simp only[World.cell?,g]
  rw[<- h2];simp only[World.cell?,g]
 rcases d with d|⟨cur,fr,d⟩
 ·exact .inl d
 exact .inr ⟨cur,fr,g.trans d⟩
def qx(rs:List R3)(k:BY):List Int:=((List.range rs.length).filter λi=>decide ((rs.getD i j_).key=k)).map λi:Nat=>(i:Int)
theorem LG(rs:List R3)(x:R3)(k:BY):qx (rs++[x]) k=qx rs k++if x.key=k then [(rs.length:Int)] else []:=by
 unfold qx;rw[L9,Aj,yD,Ou,Gl]
 congr 1
 ·congr 1
  apply List.filter_congr;intro i a;have:=yt.1 a;have e:(rs++[x]).getD i j_=rs.getD i j_:=by simp[List.getD,R_ this]
  rw[e]
 by_cases h:x.key=k<;>simp[List.getD,h]
theorem ND(rs:List R3)(k:BY):(qx rs k).length<=rs.length:=by
 unfold qx;rw[Je];exact Q8 (IJ _ _) O4
def Oj(w:World)(b:Nat)(t:TypeId):Prop:=∃cur fr,w.heap[b]?=some (.cells cur t fr)
theorem Oj.below(h:Oj w b t)(a:Below N w w')(c:b<N):Oj w' b t:=by
 obtain⟨cur,fr,h⟩:=h;exact⟨cur,fr,(a.block b c).trans h⟩
theorem Oj.kept(h:Oj w b t)(c:w.grownBy w' row)(a:some b≠row):Oj w' b t:=by
 obtain⟨cur,fr,h⟩:=h;exact⟨cur,fr,(c.block b (Ua.1 h).1 a).trans h⟩
theorem vK(w:World)(a:Array Value)(t:TypeId):Oj (w.alloc (.cells a t)) w.heap.size t:=⟨a,(0,0),(MapKept.heap_alloc w _).1⟩
structure JB(B H bT bR bP:Nat)(W:Int)(l:List (ByteArray×Value))(rv:List Value)(pl:List (ByteArray×Value))(w:World):Prop where
 hH:B<=H
 hT:B<=bT
 hR:B<=bR
 hP:B<=bP
 lt:H<w.heap.size
 n1:bT≠bR
 n2:bT≠bP
 n3:bR≠bP
 blk:E5 w H [.int .i64 W,.map (some bT),.map (some bR),.map (some bP)]
 tx:w.ownsMap prog 9 Oa bT l.length (mapD l)
 ta:Asc l
 rc:w.ownsMap prog 3 Oa bR rv.length (intD rv)
 pc:w.ownsMap prog 9 Oa bP pl.length (mapD pl)
 pa:Asc pl
 ty:Oj w H 276
structure ShR(B:Nat)(rs:List R3)(rv:List Value)(pl:List (ByteArray×Value))(w:World):Prop where
 len:rv.length=rs.length
 recs:∀i,i<rs.length->YB B w (rv.getD i undef) (rs.getD i j_)
 grp:∀k v,Z_ pl k=some v->w.ownsInts B 3 .i64 v (qx rs k)
 non:∀k,Z_ pl k=none->qx rs k=[]
 apart:∀k k' v v',k≠k'->Z_ pl k=some v->Z_ pl k'=some v'->v.ownBlock=none\/v.ownBlock≠v'.ownBlock
 pln:pl.length<=rs.length
theorem Ug(h:w.cell? ⟨H,0,none⟩=some v){es:Array MapEntry}{c:Nat}(hm:w.heap[b]?=some (.map es c)):H≠b:=λe=>by
 subst e;simp[World.cell?,hm]at h
theorem G_(a:w.grownBy w' row)(hr:∀j,row=some j->N<=j)(hN:N<=w.heap.size):Below N w w':=
 ⟨a.os,a.tape,a.output,a.size,λk hk=>a.block k O0 (λe=>by have:=hr k e.symm;omega)⟩
theorem Bf(h:Bw w w'):w.grownBy w' none:=⟨h.os,h.tape,h.output,h.size,λk a _=>h.block k a⟩
theorem Xa(h:E5 w H vs)(c:w.grownBy w' row)(b:H<w.heap.size)(a:some H≠row):E5 w' H vs:=λj v e=>by
 have:=h j v e;simp only[World.cell?,c.block H b a];simpa only[World.cell?]using this
theorem JB.kept(h:JB B H bT bR bP W l rv pl w)(a:w.grownBy w' row)(a1:some H≠row)(a2:some bT≠row)(c:some bR≠row)(b:some bP≠row):JB B H bT bR bP W l rv pl w':=
 ⟨h.hH,h.hT,h.hR,h.hP,G9 h.lt a.size,h.n1,h.n2,h.n3,Xa h.blk a h.lt a1,h.tx.kept a a2,h.ta,h.rc.kept a c,h.pc.kept a b,h.pa,h.ty.kept a a1⟩
theorem ShR.kept(h:ShR B rs rv pl w)(a:w.grownBy w' row)(hr:KL B w row)(b:∀k v,Z_ pl k=some v->v.ownBlock=none\/v.ownBlock≠row):ShR B rs rv pl w':=
 ⟨h.len,λi hl=>(h.recs i hl).kept a hr,λk v e=>(h.grp k v e).kept a (b k v e),h.non,h.apart,h.pln⟩
theorem Og(h:w.ownsInts B 3 .i64 v zs){j:Nat}(a:v.ownBlock=some j):B<=j/\j<w.heap.size/\∃cur,w.heap[j]?=some (.cells cur 3 (0,0)):=by
 rcases h.1.2 with⟨rfl,_⟩|⟨g,cap,cur,rfl,c,b,_⟩
 ·simp[Value.ownBlock]at a
 simp[Value.ownBlock]at a;subst a;exact⟨c,(Ua.1 b).1,cur,b⟩
theorem ShR.below(h:ShR B rs rv pl w)(a:Bw w w'):ShR B rs rv pl w':=
 h.kept (Bf a) (λ_ e=>by cases e) (λk v e=>by
  cases hq:v.ownBlock with
  | none=>exact .inl rfl
  | some j=>exact .inr O4)
theorem JB.below(h:JB B H bT bR bP W l rv pl w)(a:Bw w w'):JB B H bT bR bP W l rv pl w':=
 h.kept (Bf a) O4 O4 O4 O4
theorem ShR.map(h:ShR B rs rv pl w)(a:w.grownBy w' (some b))(hB:B<=b){es:Array MapEntry}{c:Nat}(hm:w.heap[b]?=some (.map es c)):ShR B rs rv pl w':=
 h.kept a (λj e=>by cases e;exact⟨hB,λcur fr e=>by rw[hm]at e;simp at e⟩) (λk v e=>by
  cases hq:v.ownBlock with
  | none=>exact .inl rfl
  | some j=>
   refine .inr λd=>?_;obtain⟨_,_,cur,hc⟩:=Og (h.grp k v e) hq;cases d;rw[hm]at hc;simp at hc)
theorem XA(ha:Asc l)(k:BY)(v:Value):Asc (Gg (k,v) (l.filter λp=>!decide (p.1=k)))/\∀k',Z_ (Gg (k,v) (l.filter λp=>!decide (p.1=k))) k'=if k'=k then some v else Z_ l k':=by
 have hf:Asc (l.filter λp=>!decide (p.1=k)):=ha.filter _;have hA:Asc (Gg (k,v) (l.filter λp=>!decide (p.1=k))):=Rt hf (λp a=>by have:=(yw.1 a).2;simpa using this);refine⟨hA,λk'=>?_⟩;have b:∀p,p∈Gg (k,v) (l.filter λp=>!decide (p.1=k))↔p=(k,v)\/(p∈l/\p.1≠k):=λp=>by
  rw[(Md _ _).mem_iff,je,yw];simp
 by_cases h:k'=k
 ·subst h;rw[D8 rfl];exact Yn hA ((b _).2 (.inl rfl))
 rw[Y7 h]
 cases hq:Z_ l k' with
 | none=>
  exact Ea.2 (λp a=>by
   rcases(b p).1 a with rfl|⟨a,_⟩
   ·exact λe=>h e.symm
   exact Ea.1 hq p a)
 | some u=>exact Yn hA ((b _).2 (.inr ⟨Ez hq,h⟩))
theorem qC(l:List (ByteArray×Value))(k:BY)(v:Value):(mapD l).put (kS k) (.held v)=mapD (Gg (k,v) (l.filter λp=>!decide (p.1=k))):=by
 show DataW.map (DataW.insert (eS (k,v)) ((l.map eS).filter λp=>!p.1.sameKey (kS k)))=DataW.map ((Gg (k,v) _).map eS);rw[tK,List.filter_map]
 congr 2
 congr 1
 apply List.filter_congr;intro p _;show(!(kS p.1).sameKey (kS k))=_;rw[uy]
def KF(w w':World):Prop:=∀q t,Oj w q t->t≠3->w'.heap[q]?=w.heap[q]?
theorem KF.trans{v:World}(h:KF w u)(g:KF u v):KF w v:=λq t hT ht=>by
 have e:=h q t hT ht;obtain⟨cs,fr,a⟩:=hT;exact(g q t ⟨cs,fr,e.trans a⟩ ht).trans e
theorem Xc(h:Below N w w')(hN:w.heap.size<=N):KF w w':=λq t hT _=>h.block q (by obtain⟨cs,fr,a⟩:=hT;have:=(Ua.1 a).1;omega)
theorem Ry{c:Nat}{es:Array MapEntry}(d:w.grownBy w' (some b))(hm:w.heap[b]?=some (.map es c)):KF w w':=λq t hT _=>by
 obtain⟨cs,fr,a⟩:=hT;refine d.block q (Ua.1 a).1 λe=>?_;obtain rfl:=D_ e;rw[hm]at a;cases a
theorem VK(b:w.grownBy w' v.ownBlock)(h:w.ownsInts B 3 .i64 v zs):KF w w':=λq t hT ht=>by
 obtain⟨cs,fr,a⟩:=hT;refine b.block q (Ua.1 a).1 λe=>?_;obtain⟨_,_,cur,hc⟩:=Og h e.symm;rw[a]at hc;injection hc with hc;injection hc with _ hc _;exact ht hc
