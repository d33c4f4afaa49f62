import Derived.Test.YtkccjgajimjjdaaGreatDooreEM
set_option linter.unusedVariables false
set_option linter.unusedSimpArgs false
set_option maxHeartbeats 8000000
set_option maxRecDepth 100000
namespace Go.Proofs.YtkccjgajimjjdaaGreatDoor
open Proofs.Tryz Go.RowKit Go.Maps
variable{u w:World}{B N k:Nat}{ts:LB}{W:Int}{t:BY}
theorem zH{g tc:Nat}(h:w.ownsRow N 9 1 (.slice (some ⟨g,0,none⟩) ts.length tc) ts.length (ts.map Value.string)):g<w.heap.size/\ts.length<=tc/\tc<=maxLen/\∀k,k<ts.length->w.cell? ⟨g,k,none⟩=some (.string (ts.getD k ByteArray.empty)):=by
 have b:=h;rcases h.2 with⟨hv,_⟩|⟨g',cap,cur,hv,hg,c,h1,h2,_⟩
 ·cases hv
 simp only[Xt,iw,Addr.mk.injEq,and_true]at hv;obtain⟨rfl,_,rfl⟩:=hv;refine⟨(Eb.1 c).1,h1,h2,λk a=>?_⟩;rw[b.cellAt k O0];rw[Rt,L9 a];simp only[Iw,List.getD,L9 a,jh]
theorem nU(a b:BY):Op.bytesLess a.toList b.toList=Ar a b:=by
 rw[oL];simp[Ar,ByteArray.toList_eq]
theorem iY(ts:LB)(k:Nat)(a:k<=ts.length)(h1:∀j,j<k->Ar (G7 (ts.getD j ByteArray.empty) W) (G7 t W)=true)(h2:k<ts.length->Ar (G7 t W) (G7 (ts.getD k ByteArray.empty) W)=true):uo W t ts=ts.take k++[t]++ts.drop k:=by
 induction ts generalizing k with
 | nil=>
  obtain rfl:k=0:=by simpa using a
  rfl
 | cons y r ih=>
  cases k with
  | zero=>
   have:=h2 E5;have e:Ar (G7 t W) (G7 y W)=true:=this;unfold uo;rw[L8 e];rfl
  | succ k=>
   have e:Ar (G7 y W) (G7 t W)=true:=h1 0 O0;have c:¬Ar (G7 t W) (G7 y W)=true:=λh=>by
    have:=Iz e h;rw[En]at this;cases this
   unfold uo;rw[Y7 c];have:=ih k (by simpa using a) (λj b=>h1 (j+1) O0) (λb=>h2 (by simpa using b));rw[this];rfl
theorem Dv{p:Nat}(a:p<ts.length):ts.getD p ByteArray.empty∈ts:=by
 have:ts.getD p ByteArray.empty=ts[p]:=by simp[List.getD,L9 a]
 rw[this];exact Zj a
theorem UN(hA:Hl W ts)(a:k<ts.length)(he:G7 (ts.getD k ByteArray.empty) W=G7 t W):qc W t ts=(ts,decide (ts.getD k ByteArray.empty=t)):=by
 unfold qc;rw[SH hA (Dv a) he]
theorem PW(hA:Hl W ts)(f:k<=ts.length)(h1:∀j,j<k->Ar (G7 (ts.getD j ByteArray.empty) W) (G7 t W)=true)(h2:k<ts.length->Ar (G7 (ts.getD k ByteArray.empty) W) (G7 t W)=false/\G7 (ts.getD k ByteArray.empty) W≠G7 t W):qc W t ts=(ts.take k++[t]++ts.drop k,true):=by
 have g:∀i j,i<j->j<ts.length->Ar (G7 (ts.getD i ByteArray.empty) W) (G7 (ts.getD j ByteArray.empty) W)=true:=λi j b a=>by
  have:=xQ.1 hA i j (by simpa using Nat.lt_trans b a) (by simpa using a) b;simp only[DF,gT]at this;simpa only[List.getD,L9 (Nat.lt_trans b a),L9 a,jh]using this
 have d:∀j,j<ts.length->G7 (ts.getD j ByteArray.empty) W≠G7 t W:=λj a e=>by
  rcases Uw j k with h|rfl|h
  ·have:=h1 j h;rw[e,En]at this;cases this
  ·exact(h2 a).2 e
  have:=g k j h a;rw[e,(h2 O0).1]at this;cases this
 have hf:ts.find? (λy=>decide (G7 y W=G7 t W))=none:=by
  rw[IA];intro y c;obtain⟨j,a,rfl⟩:=Ze c;have:=d j a;simp only[List.getD,L9 a,jh]at this;simpa using this
 unfold qc;rw[hf];simp only[];rw[iY ts k f h1 (λh=>((mM (h2 h).2).resolve_left (by rw[(h2 h).1];exact Ik)))]
theorem eH(a b:BY):(a.toList==b.toList)=decide (a=b):=by
 by_cases h:a=b
 ·subst h;simp
 have:a.toList≠b.toList:=λe=>h (by
  rw[ByteArray.toList_eq,ByteArray.toList_eq]at e;cases a;cases b;simpa using e)
 simp[this,h]
theorem a2G{old vs:List Value}{P:World->Prop}(hl:old.length=vs.length)(hB:U6 u B old)(b:H9 u B)(c:N<=B)(h:∀u',Below N u u'->U6 u' B vs->H9 u' B->(∀k,k≠B->u'.heap[k]?=u.heap[k]?)->P u'):P (fill u B 0 vs):=
 h _ (Ua c _ _ (G5 _ _)) (U6.uZ hB hl) (H9.fill _ _ b) (λk a=>aO k a _ _)
theorem yM{base e size n:Nat}{v:Value}{xs:List Value}(h:u.ownsRow base e size v n xs)(hn:0<n):∃g c,v=.slice (some ⟨g,0,none⟩) n c:=by
 rcases h.2 with⟨_,h0⟩|⟨g,cap,cur,hv,_⟩
 ·omega
 exact⟨g,cap,hv⟩
theorem a0T{t:TypeId}{a b c:Value}(h:Cl w B t [a,b,c]):w.cell? ⟨B,0,none⟩=some a/\w.cell? ⟨B,1,none⟩=some b/\w.cell? ⟨B,2,none⟩=some c:=⟨h.cell 0,h.cell 1,h.cell 2⟩
theorem a4Y(W:Int)(ts:LB)(t:BY)(N g tc rn rc:Nat)(ra:OA)(w:World)(hA:Hl W ts)(hl:ts.length<=1000000)(I:∀i,(ts.getD i ByteArray.empty).size<=1048700)(ht:t.size<=1048700)(ho:w.ownsRow N 9 1 (.slice (some ⟨g,0,none⟩) ts.length tc) ts.length (ts.map Value.string))(hN:N<=w.heap.size):
 Calls prog 178 #[.agg #[.int .i64 W,.slice (some ⟨g,0,none⟩) ts.length tc,.slice ra rn rc],.string t] w λe w'=>(∃g' c',e=.returned (.tuple #[.agg #[.int .i64 W,.slice (some ⟨g',0,none⟩) (qc W t ts).1.length c',.slice ra rn rc],.bool (qc W t ts).2])/\w'.ownsRow N 9 1 (.slice (some ⟨g',0,none⟩) (qc W t ts).1.length c') (qc W t ts).1.length ((qc W t ts).1.map Value.string))/\Bw w w':=by
 obtain⟨hgl,htc,htm,hcs⟩:=zH ho;have F:Hid (∀u,Below ((w.alloc (.cells [.int .i64 W,.slice (some ⟨g,0,none⟩) ts.length tc,.slice ra rn rc].toArray 43)).alloc (.cells [.int .i64 0,.slice none 0 0,.slice none 0 0].toArray 43)).heap.size ((w.alloc (.cells [.int .i64 W,.slice (some ⟨g,0,none⟩) ts.length tc,.slice ra rn rc].toArray 43)).alloc (.cells [.int .i64 0,.slice none 0 0,.slice none 0 0].toArray 43)) u->(Cl u w.heap.size 43 [.int .i64 W,.slice (some ⟨g,0,none⟩) ts.length tc,.slice ra rn rc]/\Cl u (w.heap.size+1) 43 [.int .i64 0,.slice none 0 0,.slice none 0 0])/\Bw w u):=λu D=>⟨⟨(U8 (X4 w _ 43) _).below D (by simp;omega),((by simp:(w.alloc (.cells [.int .i64 W,.slice (some ⟨g,0,none⟩) ts.length tc,.slice ra rn rc].toArray 43)).heap.size=w.heap.size+1)▸X4 (w.alloc (.cells [.int .i64 W,.slice (some ⟨g,0,none⟩) ts.length tc,.slice ra rn rc].toArray 43)) [.int .i64 0,.slice none 0 0,.slice none 0 0] 43:Cl ((w.alloc (.cells [.int .i64 W,.slice (some ⟨g,0,none⟩) ts.length tc,.slice ra rn rc].toArray 43)).alloc (.cells [.int .i64 0,.slice none 0 0,.slice none 0 0].toArray 43)) (w.heap.size+1) 43 [.int .i64 0,.slice none 0 0,.slice none 0 0]).below D E5⟩,J5 (Y6.alloc E5 _) D⟩;have hV:w.heap.size+2<=((w.alloc (.cells [.int .i64 W,.slice (some ⟨g,0,none⟩) ts.length tc,.slice ra rn rc].toArray 43)).alloc (.cells [.int .i64 0,.slice none 0 0,.slice none 0 0].toArray 43)).heap.size:=E5;have HO:=U0 ho;have HS:=U0 I;clear ho I
 go_in
 go_upto_region 1 with fail
 generalize ((w.alloc (.cells [.int .i64 W,.slice (some ⟨g,0,none⟩) ts.length tc,.slice ra rn rc].toArray 43)).alloc (.cells [.int .i64 0,.slice none 0 0,.slice none 0 0].toArray 43))=V at*
 go_wp2_with(first|(refine N8 (F.out _ (G5 _ _)).1.1 rfl _ _ rfl rfl rfl Y1 ?_)|(refine(lC t W _ ht).mono ?_;rintro e w1⟨rfl,hb1⟩))
 go_loopw[7] (λi wr=>∃k:Nat,k<=ts.length/\i=.int .i64 k/\Hid (∀j,j<k->Ar (G7 (ts.getD j ByteArray.empty) W) (G7 t W)=true)/\Hid (Below V.heap.size V wr)) (λi _=>ts.length-(Go.RowKit.intOf i).toNat);exact⟨0,J4 _,rfl,λj L=>absurd L (y9 _),hb1⟩;obtain⟨k,hk,rfl,L,Y⟩:=hrel
 go_upto_region 3 with fail
 go_cut[28] from 12 to 27 (λsb X=>Hid (Bw V X)/\sb=.bool (decide (k<ts.length/\Ar (G7 (ts.getD k ByteArray.empty) W) (G7 t W)=true)))
 case first=>
  have s:Hid (∀u,Bw V u->u.cell? ⟨w.heap.size,0,none⟩=some (.int .i64 W)/\u.cell? ⟨w.heap.size,1,none⟩=some (.slice (some ⟨g,0,none⟩) ts.length tc)/\(k<ts.length->u.cell? ⟨g,k,none⟩=some (.string (ts.getD k ByteArray.empty)))):=λu D=>have h:=(F.out u D);⟨h.1.1.cell 0,h.1.1.cell 1,λhk=>(h.2.cell (by exact hgl)).trans (hcs k hk)⟩
  have r:=Y.out.drew;by_cases J:k<ts.length;rotate_left
  ·refine wp_region_held_drew (S:=λu=>u.cell? ⟨w.heap.size,0,none⟩=some (.int .i64 W)/\u.cell? ⟨w.heap.size,1,none⟩=some (.slice (some ⟨g,0,none⟩) ts.length tc)) Y1 ⟨(s.out _ r).1,(s.out _ r).2.1⟩ λhH=>?_
   iterate 17 refine sq ?_
   refine wdn ?_
   go_wp2_with fail
   go_meet
   exact⟨r,by simp[J]⟩
  have hxl:=HS.out k;generalize ts.getD k ByteArray.empty=x at*;refine wp_region_held_drew (S:=λu=>u.cell? ⟨w.heap.size,0,none⟩=some (.int .i64 W)/\u.cell? ⟨w.heap.size,1,none⟩=some (.slice (some ⟨g,0,none⟩) ts.length tc)/\u.cell? ⟨g,k,none⟩=some (.string x)) Y1 ⟨(s.out _ r).1,(s.out _ r).2.1,(s.out _ r).2.2 J⟩ λhH=>?_
  iterate 13 refine sq ?_
  refine p_ 14 ?_;refine rq 13 λK d=>?_;go_simp;refine(lC x W _ hxl).mono ?_;rintro e u1⟨rfl,hb1⟩;have P:=J5 r hb1
  go_wp2_with fail
  refine A8 d ⟨(s.out _ P).1,(s.out _ P).2.1,(s.out _ P).2.2 J⟩ λhH=>?_;clear d K
  iterate 2 refine sq ?_
  refine wdn ?_
  go_wp2_with fail
  go_meet
  exact⟨P,by simp[J,nU]⟩
 obtain⟨Y,rfl⟩:=hcut;by_cases hc:k<ts.length/\Ar (G7 (ts.getD k ByteArray.empty) W) (G7 t W)=true
 ·rw[X_ hc];go_wp2;go_roundw;exact⟨k+1,hc.1,by go_num,λj hj2=>by
   rcases D8 j k with h|h
   ·exact L.out j h
   obtain rfl:j=k:=O0;exact hc.2,Y⟩
  exact Z9
 rw[o_ hc]
 replace hc:Hid (k<ts.length->Ar (G7 (ts.getD k ByteArray.empty) W) (G7 t W)=false):=λh=>by
  cases h2:Ar (G7 (ts.getD k ByteArray.empty) W) (G7 t W)
  ·rfl
  exact absurd ⟨h,h2⟩ hc
 go_upto_region 5 with fail
 go_cut[47] from 31 to 46 (λsb X=>Hid (Bw V X)/\sb=.bool (decide (k<ts.length/\G7 (ts.getD k ByteArray.empty) W=G7 t W)))
 case first=>
  have s:Hid (∀u,Bw V u->u.cell? ⟨w.heap.size,0,none⟩=some (.int .i64 W)/\u.cell? ⟨w.heap.size,1,none⟩=some (.slice (some ⟨g,0,none⟩) ts.length tc)/\(k<ts.length->u.cell? ⟨g,k,none⟩=some (.string (ts.getD k ByteArray.empty)))):=λu D=>have h:=(F.out u D);⟨h.1.1.cell 0,h.1.1.cell 1,λhk=>(h.2.cell (by exact hgl)).trans (hcs k hk)⟩
  have r:=Y.out.drew;by_cases J:k<ts.length;rotate_left
  ·refine wp_region_held_drew (S:=λu=>u.cell? ⟨w.heap.size,0,none⟩=some (.int .i64 W)/\u.cell? ⟨w.heap.size,1,none⟩=some (.slice (some ⟨g,0,none⟩) ts.length tc)) Y1 ⟨(s.out _ r).1,(s.out _ r).2.1⟩ λhH=>?_
   iterate 17 refine sq ?_
   refine wdn ?_
   go_wp2_with fail
   go_meet
   exact⟨r,by simp[J]⟩
  have hxl:=HS.out k;generalize ts.getD k ByteArray.empty=x at*;refine wp_region_held_drew (S:=λu=>u.cell? ⟨w.heap.size,0,none⟩=some (.int .i64 W)/\u.cell? ⟨w.heap.size,1,none⟩=some (.slice (some ⟨g,0,none⟩) ts.length tc)/\u.cell? ⟨g,k,none⟩=some (.string x)) Y1 ⟨(s.out _ r).1,(s.out _ r).2.1,(s.out _ r).2.2 J⟩ λhH=>?_
  iterate 13 refine sq ?_
  refine p_ 14 ?_;refine rq 13 λK d=>?_;go_simp;refine(lC x W _ hxl).mono ?_;rintro e u1⟨rfl,hb1⟩;have P:=J5 r hb1
  go_wp2_with fail
  refine A8 d ⟨(s.out _ P).1,(s.out _ P).2.1,(s.out _ P).2.2 J⟩ λhH=>?_;clear d K
  iterate 2 refine sq ?_
  refine wdn ?_
  go_wp2_with fail
  go_meet
  exact⟨P,by simp[J,eH]⟩
 obtain⟨Y,rfl⟩:=hcut;by_cases he:k<ts.length/\G7 (ts.getD k ByteArray.empty) W=G7 t W
 ·rw[X_ he];have HP:=U0 (UN (t:=t) hA he.1 he.2)
  go_upto_region 6 with fail
  have s:Hid (∀u,Bw V u->Cl u w.heap.size 43 [.int .i64 W,.slice (some ⟨g,0,none⟩) ts.length tc,.slice ra rn rc]/\u.cell? ⟨w.heap.size,1,none⟩=some (.slice (some ⟨g,0,none⟩) ts.length tc)/\u.cell? ⟨g,k,none⟩=some (.string (ts.getD k ByteArray.empty))):=λu D=>have h:=F.out u D;⟨h.1.1,h.1.1.cell 1,(h.2.cell (by exact hgl)).trans (hcs k he.1)⟩
  have r:=Y.out.drew;have J:=he.1;generalize ts.getD k ByteArray.empty=x at*;refine FI s r Y1 λhH=>?_;refine tq 0 hH ?_ (hv:=λu D=>d_ 43 _ rfl (B:=w.heap.size) (j:=0) (cs:=[.int .i64 W,.slice (some ⟨g,0,none⟩) ts.length tc,.slice ra rn rc]) rfl (λq v e=>by rw[o9];exact(D.1.cell q).trans e) underlying43 rfl Y1)
  try simp only[qq]
  refine p_ 1 ?_;refine p_ 2 ?_;refine p_ 3 ?_;refine p_ 4 ?_;refine p_ 5 ?_;refine p_ 6 ?_;refine p_ 7 ?_;refine rq 8 λK d=>?_;refine t_ rfl 43 _ _ rfl (j:=0) rfl rfl (F.out _ r).1.2 X7 (Y5 rfl) Y1 ?_;intro E CE oz;have BE:=(F.out _ r).2.trans (oz.below (show w.heap.size<=w.heap.size+1 by omega));refine A8 d ⟨(s.out _ r).1.on oz (by omega),((s.out _ r).1.on oz (by omega)).cell 1,by have h:=(s.out _ r).2.2;simp only[World.cell?]at h ⊢;rw[oz.block g (by omega)];exact h⟩ λhH=>?_;clear d K;refine p_ 9 ?_;refine wdn ?_;obtain⟨e0,e1,e2⟩:=a0T (show Cl E _ 43 [.int .i64 W,.slice (some ⟨g,0,none⟩) ts.length tc,.slice ra rn rc] from CE);go_wp2;refine Q7 (v:=.tuple #[.agg #[.int .i64 W,.slice (some ⟨g,0,none⟩) ts.length tc,.slice ra rn rc],.bool (x.toList==t.toList)]) (by simp[results,results178,go_sem,e0,e1,e2]) rfl ⟨⟨g,tc,by rw[HP.out,eH],by rw[HP.out];exact own_below HO.out BE⟩,BE⟩
 rw[o_ he];have HP:=U0 (PW hA hk L.out (λh=>⟨hc.out h,λe=>he ⟨h,e⟩⟩));clear he hc
 go_upto_region 7 with fail
 have HS1:Hid (∀u,Bw V u->∀j v,((ts.take k).map Value.string)[j]?=some v->u.cell? ((⟨g,0,none⟩:Addr).add j)=some v):=λu D j v L=>by
  have hjl:j<k:=by have:=(Zi.1 L).1;simp at this;omega
  rw[Bl,o9,((F.out u D).2.cell (p:=⟨g,j,none⟩) hgl),hcs j O0];simpa[jA hjl,List.getD,show j<ts.length by omega]using L
 obtain⟨off,hoff,a8k⟩:∃off,(off=k\/ts.length<=k)/\∀u:World,(Instr.slice 22 (.slice (some ⟨g,0,none⟩) ts.length tc) (some (.int .i64 k)) none none).run prog u=.ok (.slice (some ⟨g,off,none⟩) (ts.length-k) (tc-k)) u:=by
  obtain⟨i0,hi,hz0,hz1,hz2⟩:=info_parts' info9;refine⟨if tc=k then 0 else k,?_,λu=>?_⟩
  ·by_cases h:tc=k
   ·exact .inr O0
   exact .inl (by rw[Y7 h])
  by_cases h:tc=k<;>simp[go_sem,Instr.slice,Instr.sliceBounds,Instr.sliceBound,asIntOf,hi,hz1,h,hk,underlying22]
 have HS3:Hid (∀u,Bw V u->∀j v,((ts.drop k).map Value.string)[j]?=some v->u.cell? ((⟨g,off,none⟩:Addr).add j)=some v):=λu D j v L=>by
  have hjl:k+j<ts.length:=by have:=(Zi.1 L).1;simp at this;omega
  obtain rfl:off=k:=hoff.resolve_right O0;rw[Bl,((F.out u D).2.cell (p:=⟨g,off+j,none⟩) hgl),hcs (off+j) hjl];simpa[List.getD,hjl]using L
 clear hoff;have H:Hid (∀u,Bw V u->u.cell? ⟨w.heap.size,1,none⟩=some (.slice (some ⟨g,0,none⟩) ts.length tc)):=λu D=>(F.out u D).1.1.cell 1;have HO1:Hid (∀l:LB,∀u∈l.map Value.string,u.oneCell'=true):=λl q hq=>by obtain⟨t,_,rfl⟩:=zl.1 hq;rfl
 have Z:Inf prog 9 1:=Zc Y1;have hkc:k<=tc:=O0;have HE_:Hid (∀(y:World)(a c n:Nat)(z:World),n=(ts.take k++[t]++ts.drop k).length->Bw V y->y.ownsRow V.heap.size 9 1 (.slice (some ⟨a,0,none⟩) n c) n ((ts.take k).map Value.string++[Value.string t]++(ts.drop k).map Value.string)->Jr w.heap.size y z->Cl z w.heap.size 43 [.int .i64 W,.slice (some ⟨a,0,none⟩) n c,.slice ra rn rc]->Cl z w.heap.size 43 [.int .i64 W,.slice (some ⟨a,0,none⟩) (ts.take k++[t]++ts.drop k).length c,.slice ra rn rc]/\Cl z (w.heap.size+1) 43 [.int .i64 0,.slice none 0 0,.slice none 0 0]/\z.ownsRow V.heap.size 9 1 (.slice (some ⟨a,0,none⟩) (ts.take k++[t]++ts.drop k).length c) (ts.take k++[t]++ts.drop k).length ((ts.take k++[t]++ts.drop k).map .string)/\Bw w z):=λy a c n z hn f R I C=>by
  subst hn;exact⟨C,(F.out y f).1.2.on I (by omega),I5 (show y.ownsRow V.heap.size 9 1 _ _ ((ts.take k++[t]++ts.drop k).map Value.string) by simpa using R) (λq hq=>I.block q (by have:=Z4 R hq;omega)),(F.out y f).2.trans (I.below X7)⟩
 try simp only[qq]
 go_cut[] from 56 to 70 (λX=>∃a c:Nat,Hid (Cl X w.heap.size 43 [.int .i64 W,.slice (some ⟨a,0,none⟩) (ts.take k++[t]++ts.drop k).length c,.slice ra rn rc]/\Cl X (w.heap.size+1) 43 [.int .i64 0,.slice none 0 0,.slice none 0 0]/\X.ownsRow V.heap.size 9 1 (.slice (some ⟨a,0,none⟩) (ts.take k++[t]++ts.drop k).length c) (ts.take k++[t]++ts.drop k).length ((ts.take k++[t]++ts.drop k).map .string)/\Bw w X))
 case first=>
  have b:=Y.out.drew;refine wrl 15 H b Y1 λhH=>?_;generalize wc.drew=y at*;refine lq 1 hH ?_
  try simp only[qq]
  refine lq 2 hH ?_
  try simp only[qq]
  refine lq 3 hH ?_
  try simp only[qq]
  refine lq 4 hH ?_
  try simp only[qq]
  refine lq 6 hH ?_
  try simp only[qq]
  refine lq 9 hH ?_
  try simp only[qq]
  refine lq 10 hH ?_
  try simp only[qq]
  refine lq 11 hH ?_
  try simp only[qq]
  refine lq 12 hH ?_
  try simp only[qq]
  refine Vq (rs:=[0, 7]) Y1 E5 (y_.cons Z5 (o:=⟨some 56,.buildSlice 22 0 #[],22,_,_,none⟩) rfl (λK d=>?_) (y_.cons Z5 (o:=⟨some 63,.buildSlice 22 1 #[(0,.tmp 62)],22,_,_,none⟩) rfl (λK d=>?_) y_.nil))
  focus
   go_simp;obtain⟨y0,f⟩:∃O:World,O=y.alloc (.cells #[] 9):=⟨_,rfl⟩;have R:Hid (y0.ownsRow V.heap.size 9 1 (.slice (some ⟨y.heap.size,0,none⟩) 0 0) 0 []):=U0 (f▸dK (base:=V.heap.size) (e:=9) (size:=1) y #[] 0 b.size (J4 _) rfl)
   replace b:=J5 b (f▸Y6)
   rw[<- f];clear f;refine A8 d (H.out _ b) λhH=>?_;clear d K;refine Vq (rs:=[5, 7]) Y1 E5 (y_.cons Z5 (o:=⟨some 61,.call ⟨.builtin .append,#[.tmp 56,.tmp 60],#[22,22]⟩,22,_,_,none⟩) rfl (λK d=>?_) (y_.cons Z5 (o:=⟨some 63,.buildSlice 22 1 #[(0,.tmp 62)],22,_,_,none⟩) rfl (λK d=>?_) y_.nil))
   ·refine Ea rfl _ _ 22 rfl V.heap.size 9 1 underlying22 Z Z5 _ 0 [] rfl R.out _ k ((ts.take k).map .string) rfl (.inr ⟨⟨g,0,none⟩,tc,rfl,by simp;omega,HS1.out _ b⟩) (HO1.out _) O0 b.size ?_;intro v5 y05 m A _;rw[o9,j_]at m;obtain⟨a5,c5,rfl⟩:=V9 m
    replace b:=b.trans (N_ A (λk e=>Z4 R.out e) b.size)
    replace R:=U0 m
    clear m A;refine A8 d (H.out _ b) λhH=>?_;clear d K;refine uy 7 λK d=>?_;go_simp;obtain⟨a7w,f⟩:∃O:World,O=y05.alloc (.cells #[.string t] 9):=⟨_,rfl⟩;have Q:=U0 (f▸X4 y05 [.string t] 9 : Cl a7w y05.heap.size 9 [.string t])
    replace R:=U0 (own_below R.out (f▸Y6))
    replace b:=J5 b (f▸Y6)
    rw[<- f];clear f;refine A8 d (H.out _ b) λhH=>?_;clear d K;refine uy 8 λK d=>?_;refine Ea rfl _ _ 22 rfl V.heap.size 9 1 underlying22 Z Z5 _ k ((ts.take k).map .string) rfl R.out _ 1 [.string t] rfl (.inr ⟨_,1,rfl,rfl,Ti Q.out⟩) (Y5 rfl) O0 b.size ?_;intro v8 y8 m A _;obtain⟨a8,c8,rfl⟩:=V9 m
    replace b:=b.trans (N_ A (λk e=>Z4 R.out e) b.size)
    replace R:=U0 m
    clear m A Q;refine A8 d (H.out _ b) λhH=>?_;clear d K;refine uy 13 λK d=>?_;refine Ea rfl _ _ 22 rfl V.heap.size 9 1 underlying22 Z Z5 _ (k+1) ((ts.take k).map Value.string++[Value.string t]) rfl R.out _ (ts.length-k) ((ts.drop k).map Value.string) rfl (.inr ⟨⟨g,off,none⟩,tc-k,rfl,by simp,HS3.out _ b⟩) (HO1.out _) O0 b.size ?_;intro v13 y13 m A _;obtain⟨a13,c13,rfl⟩:=yM m O0
    replace b:=b.trans (N_ A (λk e=>Z4 R.out e) b.size)
    replace R:=U0 m
    clear m A;refine A8 d (H.out _ b) λhH=>?_;clear d K;refine lq 14 hH ?_
    try simp only[qq]
    refine iZ λK d=>?_;refine Gn rfl (Il 22 _ _ rfl (B:=w.heap.size) (j:=1) rfl rfl ⟨_,H.out _ b⟩ ((F.out _ b).1.1.opn 1) Y1) ?_;have I:=O_ y13 w.heap.size 1 (.slice (some ⟨a13,0,none⟩) (k+1+(ts.length-k)) c13);have U:=U0 (HE_.out _ a13 c13 _ _ Q8 b R.out I ((F.out _ b).1.1.set 1 _));refine d.out _ _ ?_;clear d K
    try simp only[qq]
    refine ig Y1 ?_ _
    go_wp2_with fail
    go_meet
    exact⟨_,_,U⟩
   go_simp;obtain⟨y07,f⟩:∃O:World,O=y0.alloc (.cells #[.string t] 9):=⟨_,rfl⟩;have Q:=U0 (f▸X4 y0 [.string t] 9 : Cl y07 y0.heap.size 9 [.string t]);have NQ:=U0 (Nat.ne_of_gt (X9 R.out rfl))
   replace R:=U0 (own_below R.out (f▸Y6))
   replace b:=J5 b (f▸Y6)
   rw[<- f];clear f;refine A8 d (H.out _ b) λhH=>?_;clear d K;refine uy 5 λK d=>?_;refine Ea rfl _ _ 22 rfl V.heap.size 9 1 underlying22 Z Z5 _ 0 [] rfl R.out _ k ((ts.take k).map .string) rfl (.inr ⟨⟨g,0,none⟩,tc,rfl,by simp;omega,HS1.out _ b⟩) (HO1.out _) O0 b.size ?_;intro v5 a7x m A _;rw[o9,j_]at m;obtain⟨a5,c5,rfl⟩:=V9 m
   replace Q:=U0 ((A.block _ Q.out.lt (λe=>NQ.out (I_ e))).trans Q.out : Cl a7x _ 9 [.string t])
  rotate_left
  focus
   go_simp;obtain⟨y7,f⟩:∃O:World,O=y.alloc (.cells #[.string t] 9):=⟨_,rfl⟩;have Q:=U0 (f▸X4 y [.string t] 9 : Cl y7 y.heap.size 9 [.string t])
   replace b:=J5 b (f▸Y6)
   rw[<- f];clear f;refine A8 d (H.out _ b) λhH=>?_;clear d K;refine uy 0 λK d=>?_;go_simp;obtain⟨y70,f⟩:∃O:World,O=y7.alloc (.cells #[] 9):=⟨_,rfl⟩;have R:Hid (y70.ownsRow V.heap.size 9 1 (.slice (some ⟨y7.heap.size,0,none⟩) 0 0) 0 []):=U0 (f▸dK (base:=V.heap.size) (e:=9) (size:=1) y7 #[] 0 b.size (J4 _) rfl);have NQ:=U0 (Nat.ne_of_lt Q.out.lt)
   replace Q:=U0 (Q.out.below (f▸Y6) Q.out.lt)
   replace b:=J5 b (f▸Y6)
   rw[<- f];clear f;refine A8 d (H.out _ b) λhH=>?_;clear d K;refine uy 5 λK d=>?_;refine Ea rfl _ _ 22 rfl V.heap.size 9 1 underlying22 Z Z5 _ 0 [] rfl R.out _ k ((ts.take k).map .string) rfl (.inr ⟨⟨g,0,none⟩,tc,rfl,by simp;omega,HS1.out _ b⟩) (HO1.out _) O0 b.size ?_;intro v5 a7y m A _;rw[o9,j_]at m;obtain⟨a5,c5,rfl⟩:=V9 m
   replace Q:=U0 ((A.block _ Q.out.lt (λe=>NQ.out (I_ e))).trans Q.out : Cl a7y _ 9 [.string t])
  all_goals
   replace b:=b.trans (N_ A (λk e=>Z4 R.out e) b.size)
   replace R:=U0 m
   clear m A;refine A8 d (H.out _ b) λhH=>?_;clear d K;refine uy 8 λK d=>?_;refine Ea rfl _ _ 22 rfl V.heap.size 9 1 underlying22 Z Z5 _ k ((ts.take k).map .string) rfl R.out _ 1 [.string t] rfl (.inr ⟨_,1,rfl,rfl,Ti Q.out⟩) (Y5 rfl) O0 b.size ?_;intro v8 y8 m A _;obtain⟨a8,c8,rfl⟩:=V9 m
   replace b:=b.trans (N_ A (λk e=>Z4 R.out e) b.size)
   replace R:=U0 m
   clear m A Q;refine A8 d (H.out _ b) λhH=>?_;clear d K;refine uy 13 λK d=>?_;refine Ea rfl _ _ 22 rfl V.heap.size 9 1 underlying22 Z Z5 _ (k+1) ((ts.take k).map Value.string++[Value.string t]) rfl R.out _ (ts.length-k) ((ts.drop k).map Value.string) rfl (.inr ⟨⟨g,off,none⟩,tc-k,rfl,by simp,HS3.out _ b⟩) (HO1.out _) O0 b.size ?_;intro v13 y13 m A _;obtain⟨a13,c13,rfl⟩:=yM m O0
   replace b:=b.trans (N_ A (λk e=>Z4 R.out e) b.size)
   replace R:=U0 m
   clear m A;refine A8 d (H.out _ b) λhH=>?_;clear d K;refine lq 14 hH ?_
   try simp only[qq]
   refine iZ λK d=>?_;refine Gn rfl (Il 22 _ _ rfl (B:=w.heap.size) (j:=1) rfl rfl ⟨_,H.out _ b⟩ ((F.out _ b).1.1.opn 1) Y1) ?_;have I:=O_ y13 w.heap.size 1 (.slice (some ⟨a13,0,none⟩) (k+1+(ts.length-k)) c13);have U:=U0 (HE_.out _ a13 c13 _ _ Q8 b R.out I ((F.out _ b).1.1.set 1 _));refine d.out _ _ ?_;clear d K
   try simp only[qq]
   refine ig Y1 ?_ _
   go_wp2_with fail
   go_meet
   exact⟨_,_,U⟩
 obtain⟨a,c,U⟩:=hcut;generalize hn:ts.take k++[t]++ts.drop k=T at*
 go_wp2_with(first|(refine Oe U.out.1 rfl 43 _ rfl rfl underlying43 rfl Y1 ?_)|(refine I7 rfl 43 _ _ rfl (j:=0) rfl rfl U.out.2.1 X7 (Y5 rfl) Y1 ?_;intro zz CE oq))
 obtain⟨e0,e1,e2⟩:=a0T (show Cl zz _ 43 [.int .i64 W,.slice (some ⟨a,0,none⟩) T.length c,.slice ra rn rc] from CE);refine Q7 (v:=.tuple #[.agg #[.int .i64 W,.slice (some ⟨a,0,none⟩) T.length c,.slice ra rn rc],.bool true]) (by simp[results,results178,go_sem,e0,e1,e2]) rfl ⟨⟨a,c,by rw[HP.out],by rw[HP.out];exact P7 (I5 U.out.2.2.1 (λq hq=>oq.block q (by have:=Z4 U.out.2.2.1 hq;omega))) (by omega)⟩,U.out.2.2.2.trans (oq.below (by omega))⟩
