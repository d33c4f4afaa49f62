import Derived.Test.YtbgdfcmeheaiiaaGreatDooreEI
import Derived.Test.YtbgdfcmeheaiiaaGreatDoortX1
import Derived.Test.YtbgdfcmeheaiiaaGreatDoorvK
import Derived.Laws.CopyOwn
set_option linter.unusedVariables false
set_option linter.unusedSimpArgs false
set_option maxHeartbeats 8000000
set_option maxRecDepth 100000
namespace Go.Proofs.YtbgdfcmeheaiiaaGreatDoor
open Proofs.Tryz Go.RowKit Go.Maps
variable{w:World}{ts:LB}{W:Int}{t:BY}{k:Nat}
theorem eG{N g tc:Nat}(h:w.ownsRow N 9 1 (.slice (some ⟨g,0,none⟩) ts.length tc) ts.length (ts.map Value.string)):g<w.heap.size/\ts.length<=tc/\tc<=maxLen/\∀k,k<ts.length->w.cell? ⟨g,k,none⟩=some (.string (ts.getD k ByteArray.empty)):=by
 have b:=h;rcases h.2 with⟨hv,_⟩|⟨g',cap,cur,hv,hg,c,h1,h2,_⟩
 ·cases hv
 simp only[Ir,Au,Addr.mk.injEq,and_true]at hv;obtain⟨rfl,_,rfl⟩:=hv;refine⟨(Ua.1 c).1,h1,h2,λk a=>?_⟩;rw[b.cellAt k O0];rw[Az,D9 a];simp only[yu,List.getD,D9 a,Hg]
theorem MO(a b:BY):Op.bytesLess a.toList b.toList=Dq a b:=by
 rw[lK];simp[Dq,ByteArray.toList_eq]
theorem PW(ts:LB)(k:Nat)(a:k<=ts.length)(h1:∀j,j<k->Dq (G6 (ts.getD j ByteArray.empty) W) (G6 t W)=true)(h2:k<ts.length->Dq (G6 t W) (G6 (ts.getD k ByteArray.empty) W)=true):Zl W t ts=ts.take k++[t]++ts.drop k:=by
 induction ts generalizing k with
 | nil=>
  obtain rfl:k=0:=by simpa using a
  rfl
 | cons y r ih=>
  cases k with
  | zero=>
   have:=h2 O4;have e:Dq (G6 t W) (G6 y W)=true:=this;unfold Zl;rw[D8 e];rfl
  | succ k=>
   have e:Dq (G6 y W) (G6 t W)=true:=h1 0 O0;have c:¬Dq (G6 t W) (G6 y W)=true:=λh=>by
    have:=Zy e h;rw[Jm]at this;cases this
   unfold Zl;rw[Y7 c];have:=ih k (by simpa using a) (λj b=>h1 (j+1) O0) (λb=>h2 (by simpa using b));rw[this];rfl
theorem Ru{p:Nat}(a:p<ts.length):ts.getD p ByteArray.empty∈ts:=by
 have:ts.getD p ByteArray.empty=ts[p]:=by simp[List.getD,D9 a]
 rw[this];exact ji a
theorem oO(hA:jk W ts)(a:k<ts.length)(he:G6 (ts.getD k ByteArray.empty) W=G6 t W):Fb W t ts=(ts,decide (ts.getD k ByteArray.empty=t)):=by
 unfold Fb;rw[JG hA (Ru a) he]
theorem vX(hA:jk W ts)(f:k<=ts.length)(h1:∀j,j<k->Dq (G6 (ts.getD j ByteArray.empty) W) (G6 t W)=true)(h2:k<ts.length->Dq (G6 (ts.getD k ByteArray.empty) W) (G6 t W)=false/\G6 (ts.getD k ByteArray.empty) W≠G6 t W):Fb W t ts=(ts.take k++[t]++ts.drop k,true):=by
 have g:∀i j,i<j->j<ts.length->Dq (G6 (ts.getD i ByteArray.empty) W) (G6 (ts.getD j ByteArray.empty) W)=true:=λi j b a=>by
  have:=xP.1 hA i j (by simpa using Nat.lt_trans b a) (by simpa using a) b;simp only[OE,gT]at this;simpa only[List.getD,D9 (Nat.lt_trans b a),D9 a,Hg]using this
 have d:∀j,j<ts.length->G6 (ts.getD j ByteArray.empty) W≠G6 t W:=λj a e=>by
  rcases Yw j k with h|rfl|h
  ·have:=h1 j h;rw[e,Jm]at this;cases this
  ·exact(h2 a).2 e
  have:=g k j h a;rw[e,(h2 O0).1]at this;cases this
 have hf:ts.find? (λy=>decide (G6 y W=G6 t W))=none:=by
  rw[Hy];intro y c;obtain⟨j,a,rfl⟩:=Ce c;have:=d j a;simp only[List.getD,D9 a,Hg]at this;simpa using this
 unfold Fb;rw[hf];simp only[];rw[PW ts k f h1 (λh=>((nK (h2 h).2).resolve_left (by rw[(h2 h).1];exact Jh)))]
theorem uG(a b:BY):(a.toList==b.toList)=decide (a=b):=by
 by_cases h:a=b
 ·subst h;simp
 have:a.toList≠b.toList:=λe=>h (by
  rw[ByteArray.toList_eq,ByteArray.toList_eq]at e;cases a;cases b;simpa using e)
 simp[this,h]
theorem zL{u:World}{base e size n:Nat}{v:Value}{xs:List Value}(h:u.ownsRow base e size v n xs)(hn:0<n):∃g c,v=.slice (some ⟨g,0,none⟩) n c:=by
 rcases h.2 with⟨_,h0⟩|⟨g,a,cur,hv,_⟩
 ·omega
 exact⟨g,a,hv⟩
theorem cZ{B:Nat}{t:TypeId}{a b c:Value}(h:Cl w B t [a,b,c]):w.cell? ⟨B,0,none⟩=some a/\w.cell? ⟨B,1,none⟩=some b/\w.cell? ⟨B,2,none⟩=some c:=⟨h.cell 0,h.cell 1,h.cell 2⟩
theorem a4z(W:Int)(ts:LB)(t:BY)(N g tc rn rc:Nat)(ra:OA)(w:World)(hA:jk W ts)(hl:ts.length<=1000000)(I:∀i,(ts.getD i ByteArray.empty).size<=1048700)(ht:t.size<=1048700)(ho:w.ownsRow N 9 1 (.slice (some ⟨g,0,none⟩) ts.length tc) ts.length (ts.map Value.string))(hN:N<=w.heap.size):
 Calls prog 214 #[.agg #[.int .i64 W,.slice (some ⟨g,0,none⟩) ts.length tc,.slice ra rn rc],.string t] w λe w'=>(∃g' c',e=.returned (.tuple #[.agg #[.int .i64 W,.slice (some ⟨g',0,none⟩) (Fb W t ts).1.length c',.slice ra rn rc],.bool (Fb W t ts).2])/\w'.ownsRow N 9 1 (.slice (some ⟨g',0,none⟩) (Fb W t ts).1.length c') (Fb W t ts).1.length ((Fb W t ts).1.map Value.string))/\Bw w w':=by
 obtain⟨hgl,htc,htm,hcs⟩:=eG ho;have F:Hid (∀u,Below ((w.alloc (.cells [.int .i64 W,.slice (some ⟨g,0,none⟩) ts.length tc,.slice ra rn rc].toArray 49)).alloc (.cells [.int .i64 0,.slice none 0 0,.slice none 0 0].toArray 49)).heap.size ((w.alloc (.cells [.int .i64 W,.slice (some ⟨g,0,none⟩) ts.length tc,.slice ra rn rc].toArray 49)).alloc (.cells [.int .i64 0,.slice none 0 0,.slice none 0 0].toArray 49)) u->(Cl u w.heap.size 49 [.int .i64 W,.slice (some ⟨g,0,none⟩) ts.length tc,.slice ra rn rc]/\Cl u (w.heap.size+1) 49 [.int .i64 0,.slice none 0 0,.slice none 0 0])/\Bw w u):=λu D=>⟨⟨(G8 (U3 w _ 49) _).below D (by simp;omega),((by simp:(w.alloc (.cells [.int .i64 W,.slice (some ⟨g,0,none⟩) ts.length tc,.slice ra rn rc].toArray 49)).heap.size=w.heap.size+1)▸U3 (w.alloc (.cells [.int .i64 W,.slice (some ⟨g,0,none⟩) ts.length tc,.slice ra rn rc].toArray 49)) [.int .i64 0,.slice none 0 0,.slice none 0 0] 49:Cl ((w.alloc (.cells [.int .i64 W,.slice (some ⟨g,0,none⟩) ts.length tc,.slice ra rn rc].toArray 49)).alloc (.cells [.int .i64 0,.slice none 0 0,.slice none 0 0].toArray 49)) (w.heap.size+1) 49 [.int .i64 0,.slice none 0 0,.slice none 0 0]).below D O4⟩,P5 (P6.alloc O4 _) D⟩;have hV:w.heap.size+2<=((w.alloc (.cells [.int .i64 W,.slice (some ⟨g,0,none⟩) ts.length tc,.slice ra rn rc].toArray 49)).alloc (.cells [.int .i64 0,.slice none 0 0,.slice none 0 0].toArray 49)).heap.size:=O4;have HO:=U0 ho;have HS:=U0 I;clear ho I
 go_in
 go_upto_region 1 with fail
 generalize ((w.alloc (.cells [.int .i64 W,.slice (some ⟨g,0,none⟩) ts.length tc,.slice ra rn rc].toArray 49)).alloc (.cells [.int .i64 0,.slice none 0 0,.slice none 0 0].toArray 49))=V at*
 go_wp2_with(first|(refine G5 (F.out _ (J4 _ _)).1.1 rfl _ _ rfl rfl rfl Y0 ?_)|(refine(OB t W _ ht).mono ?_;rintro e w1⟨rfl,hb1⟩))
 go_loopw[7] (λi wr=>∃k:Nat,k<=ts.length/\i=.int .i64 k/\Hid (∀j,j<k->Dq (G6 (ts.getD j ByteArray.empty) W) (G6 t W)=true)/\Hid (Below V.heap.size V wr)) (λi _=>ts.length-(Go.RowKit.intOf i).toNat);exact⟨0,I4 _,rfl,λj L=>absurd L (U7 _),hb1⟩;obtain⟨k,hk,rfl,L,Y⟩:=hrel
 go_upto_region 3 with fail
 go_cut[28] from 12 to 27 (λsb X=>Hid (Bw V X)/\sb=.bool (decide (k<ts.length/\Dq (G6 (ts.getD k ByteArray.empty) W) (G6 t W)=true)))
 case first=>
  have s:Hid (∀u,Bw V u->u.cell? ⟨w.heap.size,0,none⟩=some (.int .i64 W)/\u.cell? ⟨w.heap.size,1,none⟩=some (.slice (some ⟨g,0,none⟩) ts.length tc)/\(k<ts.length->u.cell? ⟨g,k,none⟩=some (.string (ts.getD k ByteArray.empty)))):=λu D=>have h:=(F.out u D);⟨h.1.1.cell 0,h.1.1.cell 1,λhk=>(h.2.cell (by exact hgl)).trans (hcs k hk)⟩
  have r:=Y.out.drew;by_cases J:k<ts.length;rotate_left
  ·refine wp_region_held_drew (S:=λu=>u.cell? ⟨w.heap.size,0,none⟩=some (.int .i64 W)/\u.cell? ⟨w.heap.size,1,none⟩=some (.slice (some ⟨g,0,none⟩) ts.length tc)) Y0 ⟨(s.out _ r).1,(s.out _ r).2.1⟩ λhH=>?_
   iterate 17 refine sq ?_
   refine wdn ?_
   go_wp2_with fail
   go_meet
   exact⟨r,by simp[J]⟩
  have hxl:=HS.out k;generalize ts.getD k ByteArray.empty=x at*;refine wp_region_held_drew (S:=λu=>u.cell? ⟨w.heap.size,0,none⟩=some (.int .i64 W)/\u.cell? ⟨w.heap.size,1,none⟩=some (.slice (some ⟨g,0,none⟩) ts.length tc)/\u.cell? ⟨g,k,none⟩=some (.string x)) Y0 ⟨(s.out _ r).1,(s.out _ r).2.1,(s.out _ r).2.2 J⟩ λhH=>?_
  iterate 13 refine sq ?_
  refine U8 14 ?_;refine rq 13 λK d=>?_;go_simp;refine(OB x W _ hxl).mono ?_;rintro e u1⟨rfl,hb1⟩;have P:=P5 r hb1
  go_wp2_with fail
  refine X8 d ⟨(s.out _ P).1,(s.out _ P).2.1,(s.out _ P).2.2 J⟩ λhH=>?_;clear d K
  iterate 2 refine sq ?_
  refine wdn ?_
  go_wp2_with fail
  go_meet
  exact⟨P,by simp[J,MO]⟩
 obtain⟨Y,rfl⟩:=hcut;by_cases hc:k<ts.length/\Dq (G6 (ts.getD k ByteArray.empty) W) (G6 t W)=true
 ·rw[m_ hc];go_wp2;go_roundw;exact⟨k+1,hc.1,by go_num,λj hj2=>by
   rcases P7 j k with h|h
   ·exact L.out j h
   obtain rfl:j=k:=O0;exact hc.2,Y⟩
  exact P9
 rw[y9 hc]
 replace hc:Hid (k<ts.length->Dq (G6 (ts.getD k ByteArray.empty) W) (G6 t W)=false):=λh=>by
  cases h2:Dq (G6 (ts.getD k ByteArray.empty) W) (G6 t W)
  ·rfl
  exact absurd ⟨h,h2⟩ hc
 go_upto_region 5 with fail
 go_cut[47] from 31 to 46 (λsb X=>Hid (Bw V X)/\sb=.bool (decide (k<ts.length/\G6 (ts.getD k ByteArray.empty) W=G6 t W)))
 case first=>
  have s:Hid (∀u,Bw V u->u.cell? ⟨w.heap.size,0,none⟩=some (.int .i64 W)/\u.cell? ⟨w.heap.size,1,none⟩=some (.slice (some ⟨g,0,none⟩) ts.length tc)/\(k<ts.length->u.cell? ⟨g,k,none⟩=some (.string (ts.getD k ByteArray.empty)))):=λu D=>have h:=(F.out u D);⟨h.1.1.cell 0,h.1.1.cell 1,λhk=>(h.2.cell (by exact hgl)).trans (hcs k hk)⟩
  have r:=Y.out.drew;by_cases J:k<ts.length;rotate_left
  ·refine wp_region_held_drew (S:=λu=>u.cell? ⟨w.heap.size,0,none⟩=some (.int .i64 W)/\u.cell? ⟨w.heap.size,1,none⟩=some (.slice (some ⟨g,0,none⟩) ts.length tc)) Y0 ⟨(s.out _ r).1,(s.out _ r).2.1⟩ λhH=>?_
   iterate 17 refine sq ?_
   refine wdn ?_
   go_wp2_with fail
   go_meet
   exact⟨r,by simp[J]⟩
  have hxl:=HS.out k;generalize ts.getD k ByteArray.empty=x at*;refine wp_region_held_drew (S:=λu=>u.cell? ⟨w.heap.size,0,none⟩=some (.int .i64 W)/\u.cell? ⟨w.heap.size,1,none⟩=some (.slice (some ⟨g,0,none⟩) ts.length tc)/\u.cell? ⟨g,k,none⟩=some (.string x)) Y0 ⟨(s.out _ r).1,(s.out _ r).2.1,(s.out _ r).2.2 J⟩ λhH=>?_
  iterate 13 refine sq ?_
  refine U8 14 ?_;refine rq 13 λK d=>?_;go_simp;refine(OB x W _ hxl).mono ?_;rintro e u1⟨rfl,hb1⟩;have P:=P5 r hb1
  go_wp2_with fail
  refine X8 d ⟨(s.out _ P).1,(s.out _ P).2.1,(s.out _ P).2.2 J⟩ λhH=>?_;clear d K
  iterate 2 refine sq ?_
  refine wdn ?_
  go_wp2_with fail
  go_meet
  exact⟨P,by simp[J,uG]⟩
 obtain⟨Y,rfl⟩:=hcut;by_cases he:k<ts.length/\G6 (ts.getD k ByteArray.empty) W=G6 t W
 ·rw[m_ he];have HP:=U0 (oO (t:=t) hA he.1 he.2)
  go_upto_region 6 with fail
  have s:Hid (∀u,Bw V u->Cl u w.heap.size 49 [.int .i64 W,.slice (some ⟨g,0,none⟩) ts.length tc,.slice ra rn rc]/\u.cell? ⟨w.heap.size,1,none⟩=some (.slice (some ⟨g,0,none⟩) ts.length tc)/\u.cell? ⟨g,k,none⟩=some (.string (ts.getD k ByteArray.empty))):=λu D=>have h:=F.out u D;⟨h.1.1,h.1.1.cell 1,(h.2.cell (by exact hgl)).trans (hcs k he.1)⟩
  have r:=Y.out.drew;have J:=he.1;generalize ts.getD k ByteArray.empty=x at*;refine FO s r Y0 λhH=>?_;refine tq 0 hH ?_ (hv:=λu D=>I7 49 _ rfl (B:=w.heap.size) (j:=0) (cs:=[.int .i64 W,.slice (some ⟨g,0,none⟩) ts.length tc,.slice ra rn rc]) rfl (λq v e=>by rw[l7];exact(D.1.cell q).trans e) underlying49 rfl Y0)
  try simp only[qq]
  refine U8 1 ?_;refine U8 2 ?_;refine U8 3 ?_;refine U8 4 ?_;refine U8 5 ?_;refine U8 6 ?_;refine U8 7 ?_;refine rq 8 λK d=>?_;refine Va rfl 49 _ _ rfl (j:=0) rfl rfl (F.out _ r).1.2 Y8 (A8 rfl) Y0 ?_;intro E CE oz;have BE:=(F.out _ r).2.trans (oz.below (show w.heap.size<=w.heap.size+1 by omega));refine X8 d ⟨(s.out _ r).1.on oz (by omega),((s.out _ r).1.on oz (by omega)).cell 1,by have h:=(s.out _ r).2.2;simp only[World.cell?]at h ⊢;rw[oz.block g (by omega)];exact h⟩ λhH=>?_;clear d K;refine U8 9 ?_;refine wdn ?_;obtain⟨e0,e1,e2⟩:=cZ (show Cl E _ 49 [.int .i64 W,.slice (some ⟨g,0,none⟩) ts.length tc,.slice ra rn rc] from CE);go_wp2;refine o7 (v:=.tuple #[.agg #[.int .i64 W,.slice (some ⟨g,0,none⟩) ts.length tc,.slice ra rn rc],.bool (x.toList==t.toList)]) (by simp[results,results214,go_sem,e0,e1,e2]) rfl ⟨⟨g,tc,by rw[HP.out,uG],by rw[HP.out];exact own_below HO.out BE⟩,BE⟩
 rw[y9 he];have HP:=U0 (vX hA hk L.out (λh=>⟨hc.out h,λe=>he ⟨h,e⟩⟩));clear he hc
 go_upto_region 7 with fail
 have HS1:Hid (∀u,Bw V u->∀j v,((ts.take k).map Value.string)[j]?=some v->u.cell? ((⟨g,0,none⟩:Addr).add j)=some v):=λu D j v L=>by
  have hjl:j<k:=by have:=(Rl.1 L).1;simp at this;omega
  rw[Sj,l7,((F.out u D).2.cell (p:=⟨g,j,none⟩) hgl),hcs j O0];simpa[lD hjl,List.getD,show j<ts.length by omega]using L
 obtain⟨off,hoff,a7s⟩:∃off,(off=k\/ts.length<=k)/\∀u:World,(Instr.slice 22 (.slice (some ⟨g,0,none⟩) ts.length tc) (some (.int .i64 k)) none none).run prog u=.ok (.slice (some ⟨g,off,none⟩) (ts.length-k) (tc-k)) u:=by
  obtain⟨i0,hi,hz0,hz1,hz2⟩:=info_parts' info9;refine⟨if tc=k then 0 else k,?_,λu=>?_⟩
  ·by_cases h:tc=k
   ·exact .inr O0
   exact .inl (by rw[Y7 h])
  by_cases h:tc=k<;>simp[go_sem,Instr.slice,Instr.sliceBounds,Instr.sliceBound,asIntOf,hi,hz1,h,hk,underlying22]
 have HS3:Hid (∀u,Bw V u->∀j v,((ts.drop k).map Value.string)[j]?=some v->u.cell? ((⟨g,off,none⟩:Addr).add j)=some v):=λu D j v L=>by
  have hjl:k+j<ts.length:=by have:=(Rl.1 L).1;simp at this;omega
  obtain rfl:off=k:=hoff.resolve_right O0;rw[Sj,((F.out u D).2.cell (p:=⟨g,off+j,none⟩) hgl),hcs (off+j) hjl];simpa[List.getD,hjl]using L
 clear hoff;have H:Hid (∀u,Bw V u->u.cell? ⟨w.heap.size,1,none⟩=some (.slice (some ⟨g,0,none⟩) ts.length tc)):=λu D=>(F.out u D).1.1.cell 1;have HO1:Hid (∀l:LB,∀u∈l.map Value.string,u.oneCell'=true):=λl q hq=>by obtain⟨t,_,rfl⟩:=Zm.1 hq;rfl
 have Z:Inf prog 9 1:=Um Y0;have hkc:k<=tc:=O0;have HE_:Hid (∀(y:World)(a c n:Nat)(z:World),n=(ts.take k++[t]++ts.drop k).length->Bw V y->y.ownsRow V.heap.size 9 1 (.slice (some ⟨a,0,none⟩) n c) n ((ts.take k).map Value.string++[Value.string t]++(ts.drop k).map Value.string)->Wx w.heap.size y z->Cl z w.heap.size 49 [.int .i64 W,.slice (some ⟨a,0,none⟩) n c,.slice ra rn rc]->Cl z w.heap.size 49 [.int .i64 W,.slice (some ⟨a,0,none⟩) (ts.take k++[t]++ts.drop k).length c,.slice ra rn rc]/\Cl z (w.heap.size+1) 49 [.int .i64 0,.slice none 0 0,.slice none 0 0]/\z.ownsRow V.heap.size 9 1 (.slice (some ⟨a,0,none⟩) (ts.take k++[t]++ts.drop k).length c) (ts.take k++[t]++ts.drop k).length ((ts.take k++[t]++ts.drop k).map .string)/\Bw w z):=λy a c n z hn f R I C=>by
  subst hn;exact⟨C,(F.out y f).1.2.on I (by omega),G7 (show y.ownsRow V.heap.size 9 1 _ _ ((ts.take k++[t]++ts.drop k).map Value.string) by simpa using R) (λq hq=>I.block q (by have:=Y6 R hq;omega)),(F.out y f).2.trans (I.below Y8)⟩
 try simp only[qq]
 go_cut[] from 56 to 70 (λX=>∃a c:Nat,Hid (Cl X w.heap.size 49 [.int .i64 W,.slice (some ⟨a,0,none⟩) (ts.take k++[t]++ts.drop k).length c,.slice ra rn rc]/\Cl X (w.heap.size+1) 49 [.int .i64 0,.slice none 0 0,.slice none 0 0]/\X.ownsRow V.heap.size 9 1 (.slice (some ⟨a,0,none⟩) (ts.take k++[t]++ts.drop k).length c) (ts.take k++[t]++ts.drop k).length ((ts.take k++[t]++ts.drop k).map .string)/\Bw w X))
 case first=>
  have b:=Y.out.drew;refine wrl 15 H b Y0 λhH=>?_;generalize wc.drew=y at*;refine lq 1 hH ?_
  try simp only[qq]
  refine lq 2 hH ?_
  try simp only[qq]
  refine lq 3 hH ?_
  try simp only[qq]
  refine lq 4 hH ?_
  try simp only[qq]
  refine lq 6 hH ?_
  try simp only[qq]
  refine lq 9 hH ?_
  try simp only[qq]
  refine lq 10 hH ?_
  try simp only[qq]
  refine lq 11 hH ?_
  try simp only[qq]
  refine lq 12 hH ?_
  try simp only[qq]
  refine Ip (rs:=[0, 7]) Y0 O4 (r_.cons J6 (o:=⟨some 56,.buildSlice 22 0 #[],22,_,_,none⟩) rfl (λK d=>?_) (r_.cons J6 (o:=⟨some 63,.buildSlice 22 1 #[(0,.tmp 62)],22,_,_,none⟩) rfl (λK d=>?_) r_.nil))
  focus
   go_simp;obtain⟨y0,f⟩:∃O:World,O=y.alloc (.cells #[] 9):=⟨_,rfl⟩;have R:Hid (y0.ownsRow V.heap.size 9 1 (.slice (some ⟨y.heap.size,0,none⟩) 0 0) 0 []):=U0 (f▸wJ (base:=V.heap.size) (e:=9) (size:=1) y #[] 0 b.size (I4 _) rfl)
   replace b:=P5 b (f▸P6)
   rw[<- f];clear f;refine X8 d (H.out _ b) λhH=>?_;clear d K;refine Ip (rs:=[5, 7]) Y0 O4 (r_.cons J6 (o:=⟨some 61,.call ⟨.builtin .append,#[.tmp 56,.tmp 60],#[22,22]⟩,22,_,_,none⟩) rfl (λK d=>?_) (r_.cons J6 (o:=⟨some 63,.buildSlice 22 1 #[(0,.tmp 62)],22,_,_,none⟩) rfl (λK d=>?_) r_.nil))
   ·refine Qc rfl _ _ 22 rfl V.heap.size 9 1 underlying22 Z J6 _ 0 [] rfl R.out _ k ((ts.take k).map .string) rfl (.inr ⟨⟨g,0,none⟩,tc,rfl,by simp;omega,HS1.out _ b⟩) (HO1.out _) O0 b.size ?_;intro v5 y05 m A _;rw[l7,Qb]at m;obtain⟨a5,a5h,rfl⟩:=Z9 m
    replace b:=b.trans (G_ A (λk e=>Y6 R.out e) b.size)
    replace R:=U0 m
    clear m A;refine X8 d (H.out _ b) λhH=>?_;clear d K;refine SY 7 λK d=>?_;go_simp;obtain⟨a6F,f⟩:∃O:World,O=y05.alloc (.cells #[.string t] 9):=⟨_,rfl⟩;have Q:=U0 (f▸U3 y05 [.string t] 9 : Cl a6F y05.heap.size 9 [.string t])
    replace R:=U0 (own_below R.out (f▸P6))
    replace b:=P5 b (f▸P6)
    rw[<- f];clear f;refine X8 d (H.out _ b) λhH=>?_;clear d K;refine SY 8 λK d=>?_;refine Qc rfl _ _ 22 rfl V.heap.size 9 1 underlying22 Z J6 _ k ((ts.take k).map .string) rfl R.out _ 1 [.string t] rfl (.inr ⟨_,1,rfl,rfl,jm Q.out⟩) (A8 rfl) O0 b.size ?_;intro v8 y8 m A _;obtain⟨a8,c24,rfl⟩:=Z9 m
    replace b:=b.trans (G_ A (λk e=>Y6 R.out e) b.size)
    replace R:=U0 m
    clear m A Q;refine X8 d (H.out _ b) λhH=>?_;clear d K;refine SY 13 λK d=>?_;refine Qc rfl _ _ 22 rfl V.heap.size 9 1 underlying22 Z J6 _ (k+1) ((ts.take k).map Value.string++[Value.string t]) rfl R.out _ (ts.length-k) ((ts.drop k).map Value.string) rfl (.inr ⟨⟨g,off,none⟩,tc-k,rfl,by simp,HS3.out _ b⟩) (HO1.out _) O0 b.size ?_;intro v13 y13 m A _;obtain⟨a13,fG,rfl⟩:=zL m O0
    replace b:=b.trans (G_ A (λk e=>Y6 R.out e) b.size)
    replace R:=U0 m
    clear m A;refine X8 d (H.out _ b) λhH=>?_;clear d K;refine lq 14 hH ?_
    try simp only[qq]
    refine lzq λK d=>?_;refine YF rfl (AA 22 _ _ rfl (B:=w.heap.size) (j:=1) rfl rfl ⟨_,H.out _ b⟩ ((F.out _ b).1.1.opn 1) Y0) ?_;have I:=Tc y13 w.heap.size 1 (.slice (some ⟨a13,0,none⟩) (k+1+(ts.length-k)) fG);have U:=U0 (HE_.out _ a13 fG _ _ X7 b R.out I ((F.out _ b).1.1.set 1 _));refine d.out _ _ ?_;clear d K
    try simp only[qq]
    refine lu Y0 ?_ _
    go_wp2_with fail
    go_meet
    exact⟨_,_,U⟩
   go_simp;obtain⟨y07,f⟩:∃O:World,O=y0.alloc (.cells #[.string t] 9):=⟨_,rfl⟩;have Q:=U0 (f▸U3 y0 [.string t] 9 : Cl y07 y0.heap.size 9 [.string t]);have NQ:=U0 (Nat.ne_of_gt (Oe R.out rfl))
   replace R:=U0 (own_below R.out (f▸P6))
   replace b:=P5 b (f▸P6)
   rw[<- f];clear f;refine X8 d (H.out _ b) λhH=>?_;clear d K;refine SY 5 λK d=>?_;refine Qc rfl _ _ 22 rfl V.heap.size 9 1 underlying22 Z J6 _ 0 [] rfl R.out _ k ((ts.take k).map .string) rfl (.inr ⟨⟨g,0,none⟩,tc,rfl,by simp;omega,HS1.out _ b⟩) (HO1.out _) O0 b.size ?_;intro v5 a6G m A _;rw[l7,Qb]at m;obtain⟨a5,a5h,rfl⟩:=Z9 m
   replace Q:=U0 ((A.block _ Q.out.lt (λe=>NQ.out (D_ e))).trans Q.out : Cl a6G _ 9 [.string t])
  rotate_left
  focus
   go_simp;obtain⟨y7,f⟩:∃O:World,O=y.alloc (.cells #[.string t] 9):=⟨_,rfl⟩;have Q:=U0 (f▸U3 y [.string t] 9 : Cl y7 y.heap.size 9 [.string t])
   replace b:=P5 b (f▸P6)
   rw[<- f];clear f;refine X8 d (H.out _ b) λhH=>?_;clear d K;refine SY 0 λK d=>?_;go_simp;obtain⟨y70,f⟩:∃O:World,O=y7.alloc (.cells #[] 9):=⟨_,rfl⟩;have R:Hid (y70.ownsRow V.heap.size 9 1 (.slice (some ⟨y7.heap.size,0,none⟩) 0 0) 0 []):=U0 (f▸wJ (base:=V.heap.size) (e:=9) (size:=1) y7 #[] 0 b.size (I4 _) rfl);have NQ:=U0 (Nat.ne_of_lt Q.out.lt)
   replace Q:=U0 (Q.out.below (f▸P6) Q.out.lt)
   replace b:=P5 b (f▸P6)
   rw[<- f];clear f;refine X8 d (H.out _ b) λhH=>?_;clear d K;refine SY 5 λK d=>?_;refine Qc rfl _ _ 22 rfl V.heap.size 9 1 underlying22 Z J6 _ 0 [] rfl R.out _ k ((ts.take k).map .string) rfl (.inr ⟨⟨g,0,none⟩,tc,rfl,by simp;omega,HS1.out _ b⟩) (HO1.out _) O0 b.size ?_;intro v5 a6H m A _;rw[l7,Qb]at m;obtain⟨a5,a5h,rfl⟩:=Z9 m
   replace Q:=U0 ((A.block _ Q.out.lt (λe=>NQ.out (D_ e))).trans Q.out : Cl a6H _ 9 [.string t])
  all_goals
   replace b:=b.trans (G_ A (λk e=>Y6 R.out e) b.size)
   replace R:=U0 m
   clear m A;refine X8 d (H.out _ b) λhH=>?_;clear d K;refine SY 8 λK d=>?_;refine Qc rfl _ _ 22 rfl V.heap.size 9 1 underlying22 Z J6 _ k ((ts.take k).map .string) rfl R.out _ 1 [.string t] rfl (.inr ⟨_,1,rfl,rfl,jm Q.out⟩) (A8 rfl) O0 b.size ?_;intro v8 y8 m A _;obtain⟨a8,c24,rfl⟩:=Z9 m
   replace b:=b.trans (G_ A (λk e=>Y6 R.out e) b.size)
   replace R:=U0 m
   clear m A Q;refine X8 d (H.out _ b) λhH=>?_;clear d K;refine SY 13 λK d=>?_;refine Qc rfl _ _ 22 rfl V.heap.size 9 1 underlying22 Z J6 _ (k+1) ((ts.take k).map Value.string++[Value.string t]) rfl R.out _ (ts.length-k) ((ts.drop k).map Value.string) rfl (.inr ⟨⟨g,off,none⟩,tc-k,rfl,by simp,HS3.out _ b⟩) (HO1.out _) O0 b.size ?_;intro v13 y13 m A _;obtain⟨a13,fG,rfl⟩:=zL m O0
   replace b:=b.trans (G_ A (λk e=>Y6 R.out e) b.size)
   replace R:=U0 m
   clear m A;refine X8 d (H.out _ b) λhH=>?_;clear d K;refine lq 14 hH ?_
   try simp only[qq]
   refine lzq λK d=>?_;refine YF rfl (AA 22 _ _ rfl (B:=w.heap.size) (j:=1) rfl rfl ⟨_,H.out _ b⟩ ((F.out _ b).1.1.opn 1) Y0) ?_;have I:=Tc y13 w.heap.size 1 (.slice (some ⟨a13,0,none⟩) (k+1+(ts.length-k)) fG);have U:=U0 (HE_.out _ a13 fG _ _ X7 b R.out I ((F.out _ b).1.1.set 1 _));refine d.out _ _ ?_;clear d K
   try simp only[qq]
   refine lu Y0 ?_ _
   go_wp2_with fail
   go_meet
   exact⟨_,_,U⟩
 obtain⟨a,c,U⟩:=hcut;generalize hn:ts.take k++[t]++ts.drop k=T at*
 go_wp2_with(first|(refine Ub U.out.1 rfl 49 _ rfl rfl underlying49 rfl Y0 ?_)|(refine N8 rfl 49 _ _ rfl (j:=0) rfl rfl U.out.2.1 Y8 (A8 rfl) Y0 ?_;intro zz CE oq))
 obtain⟨e0,e1,e2⟩:=cZ (show Cl zz _ 49 [.int .i64 W,.slice (some ⟨a,0,none⟩) T.length c,.slice ra rn rc] from CE);refine o7 (v:=.tuple #[.agg #[.int .i64 W,.slice (some ⟨a,0,none⟩) T.length c,.slice ra rn rc],.bool true]) (by simp[results,results214,go_sem,e0,e1,e2]) rfl ⟨⟨a,c,by rw[HP.out],by rw[HP.out];exact a_ (G7 U.out.2.2.1 (λq hq=>oq.block q (by have:=Y6 U.out.2.2.1 hq;omega))) (by omega)⟩,U.out.2.2.2.trans (oq.below (by omega))⟩
end Go.Proofs.YtbgdfcmeheaiiaaGreatDoor
namespace Go.Proofs.YtbgdfcmeheaiiaaGreatDoor.T
open Proofs.Tryz Go.RowKit
variable{u u' w:World}{B base n size:Nat}{e:TypeId}{A v:Value}{xs:List Value}{gs:List F2}
theorem NF{b j:Nat}{x:Value}(h:w.ownsRow base e size v n xs)(hb:b<base):(w.setCell ⟨b,j,none⟩ x).ownsRow base e size v n xs:=G7 h (λq a=>(Tc w b j x).block q (λe=>by have:=Y6 h a;omega))
def jv(fs:List F2):List Value:=fs.flatMap λx=>[.string x.nm,.string x.tx]
theorem Hq{p:Prop}(h:p):Hid p:=h
theorem dS(fs:List F2)(x:F2):jv (fs++[x])=jv fs++[.string x.nm,.string x.tx]:=by simp[jv]
theorem Gu:Inf prog 166 2:=Um Y0
theorem Hw{t:TypeId}(h:B=w.heap.size):Cl (w.alloc (.cells xs.toArray t)) B t xs:=h▸U3 w xs t
theorem Eb(h:w.ownsRow base e size v n xs):∃a c,v=.slice a n c:=by
 rcases h.2 with⟨rfl,rfl⟩|⟨g,cap,cur,rfl,_⟩
 ·exact⟨_,_,rfl⟩
 exact⟨_,_,rfl⟩
theorem Di(h:Below B w u)(g:u.grownBy u' v.ownBlock)(hz:B<=u.heap.size)(hv:∀k,v.ownBlock=some k->B<=k):Below B w u':=
 ⟨g.os.trans h.os,g.tape.trans h.tape,g.output.trans h.output,Q8 h.size g.size,λk a=>(g.block k O0 (λe=>by have:=hv k e.symm;omega)).trans (h.block k a)⟩
structure W6(w:World)(A v:Value)(gs:List F2)(u:World):Prop where
 b:Bw w u
 h0:Cl u w.heap.size 46 [A]
 h1:Cl u (w.heap.size+1) 46 [.slice none 0 0]
 h2:Cl u (w.heap.size+1+1) 46 [v]
 ho:u.ownsRow (w.heap.size+3) 166 2 v gs.length (jv gs)
theorem W6.below(h:W6 w A v gs u)(a:Bw u u'):W6 w A v gs u':=
 ⟨h.b.trans (a.mono h.b.size),h.h0.below a h.h0.lt,h.h1.below a h.h1.lt,h.h2.below a h.h2.lt,ownsRow_below h.ho a⟩
theorem W6.app{v':Value}{x:F2}(h:W6 w A v gs u)(hr:u'.ownsRow (w.heap.size+3) 166 2 v' (gs.length+1) (jv gs++[.string x.nm,.string x.tx]))(d:u.grownBy u' v.ownBlock):Below (w.heap.size+3) u u'/\W6 w A v' (gs++[x]) (u'.setCell ⟨w.heap.size+1+1,0,none⟩ v'):=by
 have k:∀j,v.ownBlock=some j->w.heap.size+3<=j:=λj e=>(h.ho.lt j e).1;have hB:=Di (J4 (w.heap.size+3) u) d h.h2.lt k;have c2:=h.h2.below hB O0;have c:=(J4 (w.heap.size+1+1) u').setCell (p:=(aA (w.heap.size+1+1) 0)) Y8 v';have a:Below (w.heap.size+1+1) u _:=(hB.mono O0).trans c;refine⟨hB,h.b.trans (a.mono O0),h.h0.below a O0,h.h1.below a O0,c2.set 0 v',?_⟩;rw[L9,dS];exact NF hr O0
def nq(nm:BY)(y:F2):Bool:=!(y.nm.toList==nm.toList)
theorem a2o(a:OA)(n:Nat)(fs:List F2)(nm:BY)(w:World)(hl:fs.length<=1000)(s:U5 w a fs):
 Calls prog 210 #[.agg #[.slice a fs.length n],.string nm] w λe w'=>(∃v gs,e=.returned (.agg #[v])/\w'.ownsRow w.heap.size 166 2 v gs.length (jv gs)/\gs.length<=fs.length/\(∀x∈gs,x∈fs)/\gs=fs.filter (nq nm))/\Bw w w':=by
 obtain⟨b,off,hc⟩:=o_ s;have B:=Hq hc;clear hc s
 go_in
 go_wp2;go_loopw[6] (λi wr=>∃(k:Nat)(v:Value)(gs:List F2),i=.int .i64 k/\k<=fs.length/\gs.length<=k/\Hid (gs=(fs.take k).filter (nq nm))/\Hid (W6 w (.slice a fs.length n) v gs wr)) (λi _=>fs.length-(RowKit.intOf i).toNat);exact⟨0,_,[],rfl,I4 _,J9 _,rfl,⟨(P6.alloc O4 _).alloc X7 _,G8 (G8 (U3 w [_] 46) _) _,G8 (Hw (xs:=[_]) O4) _,Hw (xs:=[_]) O4,og _ _ _ _⟩⟩;obtain⟨k,v,gs,rfl,hk,hg,h,H⟩:=hrel;obtain⟨va,j,rfl⟩:=Eb H.out.ho;have F:=H.out.h0.cell 0;have z:=H.out.h1.cell 0;have f1:=H.out.h1.opn 0;have E:=H.out.h2.cell 0;dsimp only[List.getElem?_cons_zero]at F z E;by_cases f:k<fs.length;rotate_left
 ·go_wp2;have D:=ng wr (aA (w.heap.size+1) 0) (vL va gs.length j) z;refine o7 (v:=.agg #[vL va gs.length j]) (by simp[results,results210,go_sem,D]) rfl ⟨⟨_,gs,rfl,ig (NF H.out.ho O0) O0,O0,(λx hx=>by rw[h.out]at hx;exact VA (yw.1 hx).1),by rw[h.out,p_ O0]⟩,H.out.b.setCell O4 _⟩
 obtain⟨ha,r,l⟩:=Zb B.out f;subst ha;have g0:=(H.out.b.cell (by exact r)).trans (l k f).1;have g1:=(H.out.b.cell (by exact r)).trans (l k f).2;have A:Hid (fs.take (k+1)=fs.take k++[fs.getD k P8]):=by show _=_;rw[Bz f];simp[List.getD,f]
 generalize fs.getD k P8=x at*;clear l B;cases hne:(x.nm.toList==nm.toList);rotate_left
 ·have q:Hid (gs=(fs.take (k+1)).filter (nq nm)):=by show _=_;rw[A.out,Ou,<- h.out];simp[nq,hne]
  go_wp2;go_roundw;exact⟨k+1,_,gs,by go_num,O0,O0,q,H⟩;exact P9
 go_wp2_with fail
 refine Tn (S:=λu=>u.cell? (aA (w.heap.size+1+1) 0)=some (vL va gs.length j)/\u.cell? (aW w 0)=some (vL (some (aA b off)) fs.length n)/\u.cell? (aA b (off+k*2))=some (vS x.nm)/\u.cell? (aA b (off+k*2+1))=some (vS x.tx)) 10 Y0 ?_ λhH=>?_
 · ((try dsimp only);go_keep)
 refine lq 0 hH ?_;refine lq 1 hH ?_;refine lq 2 hH ?_;refine lq 3 hH ?_;refine lq 4 hH ?_;refine lq 5 hH ?_
 try simp only[qq]
 refine lq 6 hH ?_
 try simp only[qq]
 refine lr (i:=7) (o:=⟨some 30,.buildSlice 44 1 #[(0,.tmp 29)],44,_,_,none⟩) rfl J6 Y0 λK c=>?_;go_simp;obtain⟨y,g⟩:∃y:World,y=(wr.alloc (.cells #[vS x.nm,vS x.tx] 166)).drew:=⟨_,rfl⟩;rw[<- g];have m:Bw wr y:=by rw[g];exact P6.drew
 have q:Hid (Cl y wr.heap.size 166 [vS x.nm,vS x.tx]):=by show Cl _ _ _ _;rw[g];exact U3 wr _ 166
 have d:=Hq (H.out.below m);have hbz:=H.out.b.size;have e0:=(m.cell (by show b<_;omega)).trans g0;have e1:=(m.cell (by show b<_;omega)).trans g1;clear g hH;refine X8 c ?_ λhH=>?_
 ·exact⟨d.out.h2.cell 0,d.out.h0.cell 0,e0,e1⟩
 clear c K;refine lr (i:=8) (o:=⟨some 31,.call ⟨.builtin .append,#[.tmp 24,.tmp 30],#[44,44]⟩,44,_,_,none⟩) rfl J6 Y0 λK c=>?_;refine Qc rfl _ _ 44 rfl (w.heap.size+3) 166 2 underlying44 Gu J6 _ gs.length _ rfl d.out.ho _ 1 [vS x.nm,vS x.tx] rfl (.inr ⟨(aW wr 0),1,rfl,rfl,jm q.out⟩) (by simp[Value.oneCell']) O0 d.out.h2.lt ?_;intro v' y2 p g2 _;obtain⟨va',vc',rfl⟩:=Eb p;obtain⟨hB,t⟩:=d.out.app (x:=x) p g2;have c2:=d.out.h2.below hB O0;have I:=Hq t;clear t p g2 hH;refine X8 c ?_ λhH=>?_
 ·exact⟨c2.cell 0,(d.out.h0.below hB O0).cell 0,(hB.cell (by show b<_;omega)).trans e0,(hB.cell (by show b<_;omega)).trans e1⟩
 clear c K;refine lq 9 hH ?_
 try simp only[qq]
 refine lz (o:=⟨none,.store 44 (.tmp 32) (.tmp 31),0,_,_,none⟩) rfl Y0 λK c=>?_;have C:=c2.cell 0;have zf:=c2.opn 0;dsimp only[List.getElem?_cons_zero]at C;go_simp;clear hH;refine c.out _ _ ?_;clear c K
 try simp only[qq]
 refine lu Y0 ?_ _;go_wp2;go_roundw;exact⟨k+1,_,gs++[x],by go_num,O0,X7,by show _=_;rw[A.out,Ou,<- h.out];simp[nq,hne],I⟩;exact P9
end Go.Proofs.YtbgdfcmeheaiiaaGreatDoor.T
namespace Go.Proofs.YtbgdfcmeheaiiaaGreatDoor
open Proofs.Tryz Go.RowKit
theorem c9(b:Bs)(q:Ba)(l:Int)(w:World)(h0:0<=l)(h1:l<=1048576)(X:Bo b 9223372036854775807)(Y:Dn w b q):
 Calls prog 9 #[.agg (bsV b q).toArray,.int .i64 l] w λe w'=>(∃r:Int,e=.returned (.int .i64 r)/\(0<=r->(Bo b 1048576/\b.sf.length+b.lo.length<=1048576)/\r<=1048576))/\Bw w w':=by
 have d:=U0 Y;have c:=U0 X
 go_in
 go_upto_region 1 with fail
 have u:=U0 (U3 w (bsV b q) 35);have P:=U0 (P6 (w:=w) (o:=.cells (bsV b q).toArray 35));generalize w.alloc (.cells (bsV b q).toArray 35)=V0 at*;have a5:=u.out.cell 5;have a6:=u.out.cell 6;simp only[gz]at a5 a6
 go_wp2_with fail
 refine(c28 q.sa q.la q.sc q.lc b.sf b.lo l V0 h0 h1 c.out.ss c.out.ls c.out.sl c.out.ll (X5 d.out.sf P) (X5 d.out.lo P)).mono ?_;rintro e V1⟨⟨p,rfl,hr⟩,a⟩;have R1:=U0 hr;have O:=U0 (P5 P a);have I:=U0 (u.out.below a u.out.lt);by_cases f:p<0
 ·go_wp2;go_ret;exact⟨⟨-1,rfl,λh=>O0⟩,O⟩
 have t:=R1.out O0;have F1:=U0 (t.1);have F2:=U0 (t.2.1);have C:=U0 (t.2.2.1);have e1:p<=1048576:=by have:=t.2.2.2;omega
 have n1:0<=p:=O0;have a7:=I.out.cell 7;simp only[gz]at a7
 go_wp2_with fail
 refine(c29 q.fa q.fc b.fs p V1 O0 O0 c.out.fz c.out.fl (T.X4 d.out.fs O)).mono ?_;rintro e V2⟨⟨n,rfl,hr⟩,a⟩;have R2:=U0 hr;have N:=U0 (P5 O a);have g:=U0 (I.out.below a I.out.lt);by_cases f:n<0
 ·go_wp2;go_ret;exact⟨⟨-1,rfl,λh=>O0⟩,N⟩
 have A:=R2.out O0;have F4:=U0 (A.1);have F5:=U0 (A.2.1);have e2:n<=1048576:=by have:=A.2.2;omega
 have n2:0<=n:=O0;have a8:=g.out.cell 8;have Z:=g.out.cell 9;have a10:=g.out.cell 10;simp only[gz]at a8 Z a10
 go_wp2_with fail
 refine(fG q.ta q.ra q.tc q.rc b.s n V2 O0 O0 c.out.st (d.out.st.below N)).mono ?_;rintro e U⟨⟨m,rfl,hr⟩,a⟩;have R3:=U0 hr;have W:=U0 (P5 N a);have H:=U0 (g.out.below a g.out.lt);by_cases f:m<0
 ·go_wp2;go_ret;exact⟨⟨-1,rfl,λh=>O0⟩,W⟩
 have R:=R3.out O0;have F6:=U0 (R.1.1);have e3:m<=1048576:=by have:=R.2;omega
 have n3:0<=m:=O0;have a11:=H.out.cell 11;simp only[gz]at a11
 go_wp2_with fail
 refine(c31 q.ha q.hc b.hd.length m U O0 O0 c.out.hl).mono ?_;rintro e B⟨⟨k,rfl,hr⟩,a⟩
 replace a:Bw U B:=by rw[a];exact J4 _ _
 have R4:=U0 hr;have L:=U0 (P5 W a);have F:=U0 (H.out.below a H.out.lt);by_cases f:k<0
 ·go_wp2;go_ret;exact⟨⟨-1,rfl,λh=>O0⟩,L⟩
 have Q:=R4.out O0;have F7:=U0 (Q.1);have e4:k<=1048576:=by have:=Q.2;omega
 have n4:0<=k:=O0;have a12:=F.out.cell 12;simp only[gz]at a12
 go_wp2_with fail
 refine(c32 q.oa q.oc b.rt k B O0 O0 c.out.rs c.out.rl (X5 d.out.rt L)).mono ?_;rintro e S⟨⟨j,rfl,hr⟩,a⟩
 replace a:Bw B S:=by rw[a];exact J4 _ _
 have R5:=U0 hr;have K:=U0 (P5 L a);have E:=U0 (F.out.below a F.out.lt);by_cases f:j<0
 ·go_wp2;go_ret;exact⟨⟨-1,rfl,λh=>O0⟩,K⟩
 have z:=R5.out O0;have F8:=U0 (z.1);have F9:=U0 (z.2.1);have e5:j<=1048576:=by have:=z.2.2;omega
 have n5:0<=j:=O0;have a13:=E.out.cell 13;simp only[gz]at a13
 go_wp2_with fail
 refine(UL q.na q.nc b.rn j S O0 O0 c.out.ns c.out.nl (Ve d.out.rn K)).mono ?_;rintro e V6⟨⟨i,rfl,hr⟩,a⟩;have R6:=U0 hr;have J:=U0 (P5 K a);have D:=U0 (E.out.below a E.out.lt);by_cases f:i<0
 ·go_wp2;go_ret;exact⟨⟨-1,rfl,λh=>O0⟩,J⟩
 have y:=R6.out O0;have FA:=U0 (y.1);have FB:=U0 (y.2.1);have e6:i<=1048576:=by have:=y.2.2;omega
 have n6:0<=i:=O0;have a14:=D.out.cell 14;simp only[gz]at a14
 go_wp2_with fail
 refine(c34 q.ja q.jc b.jb i V6 O0 O0 c.out.js c.out.jl (Dl d.out.jb J)).mono ?_;rintro e V7⟨⟨v,rfl,hr⟩,a⟩;have R7:=U0 hr;have V:=U0 (P5 J a);have C7:=U0 (D.out.below a D.out.lt);by_cases f:v<0
 ·go_wp2;go_ret;exact⟨⟨-1,rfl,λh=>O0⟩,V⟩
 have x:=R7.out O0;have FC:=U0 (x.1);have FD:=U0 (x.2.1);have e7:v<=1048576:=by have:=x.2.2;omega
 have n7:0<=v:=O0;go_wp2;go_ret;exact⟨⟨_,rfl,λh=>⟨⟨⟨by have:=C.out;omega,F1.out,by have:=C.out;omega,F2.out,F4.out,F5.out,F6.out,F7.out,F8.out,F9.out,FA.out,FB.out,FC.out,FD.out⟩,C.out⟩,O0⟩⟩,V.out⟩
theorem c72(sa la a b:OA)(sc lc c d:Nat)(sf lo:LB)(w:World)(h1:sf.length<=1048576)(h2:lo.length<=1048576)(o:o8 w sa sf)(hl:o8 w la lo)(n:o8 w a sf)(p:o8 w b lo):
 Calls prog 72 #[.agg #[.slice sa sf.length sc,.slice la lo.length lc],.agg #[.slice a sf.length c,.slice b lo.length d]] w λe w'=>e=.returned (.bool true)/\Bw w w':=by
 have x:=U0 o;have v:=U0 hl;have u:=U0 n;have t:=U0 p
 go_in
 go_upto_region 1 with fail
 have k:=U0 (G8 (U3 w [vL sa sf.length sc,vL la lo.length lc] 43) (.cells #[vL a sf.length c,vL b lo.length d] 43));have i:Hid (Cl ((w.alloc (.cells #[vL sa sf.length sc,vL la lo.length lc] 43)).alloc (.cells #[vL a sf.length c,vL b lo.length d] 43)) (w.heap.size+1) 43 [vL a sf.length c,vL b lo.length d]):=by show Cl _ _ _ _;have h:=U3 (w.alloc (.cells #[vL sa sf.length sc,vL la lo.length lc] 43)) [vL a sf.length c,vL b lo.length d] 43;simpa using h
 have m:Hid (Bw w ((w.alloc (.cells #[vL sa sf.length sc,vL la lo.length lc] 43)).alloc (.cells #[vL a sf.length c,vL b lo.length d] 43))):=P6.alloc O4 _;generalize (w.alloc (.cells #[vL sa sf.length sc,vL la lo.length lc] 43)).alloc (.cells #[vL a sf.length c,vL b lo.length d] 43)=y at*;have s:=k.out.cell 0;have r:=i.out.cell 0;simp only[gz]at s r
 go_wp2_with fail
 refine(c76 sa a sc c sf y h1 (X5 x m) (X5 u m)).mono ?_;rintro e V1⟨rfl,f⟩;have l:=U0 (P5 m f);have j:=U0 (k.out.below f k.out.lt);have g:=U0 (i.out.below f i.out.lt);have a1:=j.out.cell 1;have q:=g.out.cell 1;simp only[gz]at a1 q
 go_wp2_with fail
 refine(c76 la b lc d lo V1 h2 (X5 v l) (X5 t l)).mono ?_;rintro e V2⟨rfl,f⟩;have z:=U0 (P5 l f);have C2:=U0 (j.out.below f j.out.lt);have D2:=U0 (g.out.below f g.out.lt);go_wp2;go_ret;exact⟨rfl,z⟩
theorem a3j(x:Rn)(c a:OA)(f b:Nat)(w:World)(hl:x.ls.length<=1048576)(n:X6 w c x.ls)(m:X6 w a x.ls):
 Calls prog 136 #[.agg #[.string x.nm,.int .i64 x.md,.string x.wt,.slice c x.ls.length f,.int .i64 x.cd,.string x.tx],.agg #[.string x.nm,.int .i64 x.md,.string x.wt,.slice a x.ls.length b,.int .i64 x.cd,.string x.tx]] w λe w'=>e=.returned (.bool true)/\Bw w w':=by
 have B:=U0 n;have A:=U0 m
 go_in
 go_upto_region 1 with fail
 have i:=U0 (G8 (U3 w [vS x.nm,vI x.md,vS x.wt,vL c x.ls.length f,vI x.cd,vS x.tx] 178) (.cells #[vS x.nm,vI x.md,vS x.wt,vL a x.ls.length b,vI x.cd,vS x.tx] 178));have g:Hid (Cl ((w.alloc (.cells #[vS x.nm,vI x.md,vS x.wt,vL c x.ls.length f,vI x.cd,vS x.tx] 178)).alloc (.cells #[vS x.nm,vI x.md,vS x.wt,vL a x.ls.length b,vI x.cd,vS x.tx] 178)) (w.heap.size+1) 178 [vS x.nm,vI x.md,vS x.wt,vL a x.ls.length b,vI x.cd,vS x.tx]):=by show Cl _ _ _ _;have h:=U3 (w.alloc (.cells #[vS x.nm,vI x.md,vS x.wt,vL c x.ls.length f,vI x.cd,vS x.tx] 178)) [vS x.nm,vI x.md,vS x.wt,vL a x.ls.length b,vI x.cd,vS x.tx] 178;simpa using h
 have l:Hid (Bw w ((w.alloc (.cells #[vS x.nm,vI x.md,vS x.wt,vL c x.ls.length f,vI x.cd,vS x.tx] 178)).alloc (.cells #[vS x.nm,vI x.md,vS x.wt,vL a x.ls.length b,vI x.cd,vS x.tx] 178))):=P6.alloc O4 _;generalize (w.alloc (.cells #[vS x.nm,vI x.md,vS x.wt,vL c x.ls.length f,vI x.cd,vS x.tx] 178)).alloc (.cells #[vS x.nm,vI x.md,vS x.wt,vL a x.ls.length b,vI x.cd,vS x.tx] 178)=C at*;have z:=i.out.cell 0;have t:=g.out.cell 0;have a1:=i.out.cell 1;have s:=g.out.cell 1;have a2:=i.out.cell 2;have r:=g.out.cell 2;have y:=i.out.cell 3;have q:=g.out.cell 3;simp only[gz]at z t a1 s a2 r y q
 go_wp2_with fail
 refine(WZ c a f b x.ls C hl (Z4 B l) (Z4 A l)).mono ?_;rintro e V1⟨rfl,d⟩;have E:=U0 (P5 l d);have k:=U0 (i.out.below d i.out.lt);have j:=U0 (g.out.below d g.out.lt);have v:=k.out.cell 4;have p:=j.out.cell 4;have u:=k.out.cell 5;have o:=j.out.cell 5;simp only[gz]at v p u o
 go_wp2_with fail
 refine(c139 x.cd x.tx V1).mono ?_;rintro e V2⟨rfl,d⟩;have D:=U0 (P5 E d);have C2:=U0 (k.out.below d k.out.lt);have D2:=U0 (j.out.below d j.out.lt);go_wp2;go_ret;exact⟨rfl,D⟩
theorem Io{α:Type}{d:α}{x y:List α}(h:x.length=y.length)(hd:∀j,j<x.length->x.getD j d=y.getD j d):x=y:=by
 apply Qy h;intro i h1 h2;have e:=hd i h1;simpa[List.getD,h1,h2]using e
theorem a4c(a c:List Int)(v u:OA)(D C:Nat)(w:World)(hl:a.length<=1048576)(hl':c.length<=1048576)(s:Jg w v a)(r:Jg w u c):
 Calls prog 121 #[.slice v a.length D,.slice u c.length C] w λe w'=>Rb (a=c) e/\Bw w w':=by
 by_cases d:a.length=c.length;rotate_left
 ·have n:Hid (¬a=c):=λh=>d (by rw[h]);have hn1:¬(a.length:Int)=c.length:=O0
  go_in
  go_wp2;go_ret;exact⟨I5 n.out,J4 _ _⟩
 rw[<- d];have m:=U0 d;clear d;obtain⟨b,off,hc⟩:=lg s;obtain⟨b',off',q⟩:=lg r;have I:=U0 hc;have H:=U0 q;clear hc q s r
 go_in
 go_wp2;go_loopw[13] (λi wr=>∃(k:Nat),k<=a.length/\i=.int .i64 k/\Hid (∀j,j<k->a.getD j 0=c.getD j 0)/\Below w.heap.size w wr) (λi _=>a.length-(RowKit.intOf i).toNat);exact⟨0,I4 _,rfl,λj h=>absurd h (U7 _),J4 _ _⟩;obtain⟨k,hk2,rfl,hd,l⟩:=hrel;have t:=l;by_cases g:k<a.length
 ·obtain⟨ha,z,p⟩:=Zb I.out g;rcases H.out with x|⟨A,y,o⟩
  ·have d:=m.out;rw[x]at d;rw[d]at g;exact absurd g (U7 _)
  subst ha;subst A;have g0:=(l.cell (by exact z)).trans (p k g);have B:=(l.cell (by exact y)).trans (o k (by have:=m.out;omega));clear p o;by_cases f:a.getD k 0=c.getD k 0
  ·have F:Hid (∀j,j<k+1->a.getD j 0=c.getD j 0):=λj hj=>by
    rcases P7 j k with h|h
    ·exact hd.out j h
    obtain rfl:j=k:=O0;exact f
   rw[<- f]at B;generalize a.getD k 0=X at*;clear f hd
   go_wp2_with fail
   go_region
   all_goals go_wp2
   all_goals go_roundw
   all_goals first
    | exact⟨k+1,O0,by go_num,F,l.drew⟩
    | (exact P9)
  have n:Hid (¬a=c):=λh=>f (by rw[h]);generalize a.getD k 0=X at*;generalize c.getD k 0=Y at*;have hg':(X==Y)=false:=by simpa using f
  go_wp2_with fail
  go_region
  all_goals go_wp2
  all_goals go_ret
  all_goals exact⟨I5 n.out,t.drew⟩
 obtain rfl:k=a.length:=O0;have E:Hid (a=c):=by
  exact Io m hd
 go_wp2;go_ret;exact⟨F_ E,t⟩
theorem a4R(a c:LB)(v u:OA)(D C:Nat)(w:World)(hl:a.length<=1048576)(hl':c.length<=1048576)(s:o8 w v a)(r:o8 w u c):
 Calls prog 178 #[.slice v a.length D,.slice u c.length C] w λe w'=>Rb (a=c) e/\Bw w w':=by
 by_cases d:a.length=c.length;rotate_left
 ·have n:Hid (¬a=c):=λh=>d (by rw[h]);have hn1:¬(a.length:Int)=c.length:=O0
  go_in
  go_wp2;go_ret;exact⟨I5 n.out,J4 _ _⟩
 rw[<- d];have m:=U0 d;clear d;obtain⟨b,off,hc⟩:=O_ s;obtain⟨b',off',q⟩:=O_ r;have I:=U0 hc;have H:=U0 q;clear hc q s r
 go_in
 go_wp2;go_loopw[13] (λi wr=>∃(k:Nat),k<=a.length/\i=.int .i64 k/\Hid (∀j,j<k->a.getD j ByteArray.empty=c.getD j ByteArray.empty)/\Below w.heap.size w wr) (λi _=>a.length-(RowKit.intOf i).toNat);exact⟨0,I4 _,rfl,λj h=>absurd h (U7 _),J4 _ _⟩;obtain⟨k,hk2,rfl,hd,l⟩:=hrel;have t:=l;by_cases g:k<a.length
 ·obtain⟨ha,z,p⟩:=Zb I.out g;rcases H.out with x|⟨A,y,o⟩
  ·have d:=m.out;rw[x]at d;rw[d]at g;exact absurd g (U7 _)
  subst ha;subst A;have g0:=(l.cell (by exact z)).trans (p k g);have B:=(l.cell (by exact y)).trans (o k (by have:=m.out;omega));clear p o;by_cases f:a.getD k ByteArray.empty=c.getD k ByteArray.empty
  ·have F:Hid (∀j,j<k+1->a.getD j ByteArray.empty=c.getD j ByteArray.empty):=λj hj=>by
    rcases P7 j k with h|h
    ·exact hd.out j h
    obtain rfl:j=k:=O0;exact f
   rw[<- f]at B;generalize a.getD k ByteArray.empty=X at*;clear f hd
   go_wp2_with fail
   go_region
   all_goals go_wp2
   all_goals go_roundw
   all_goals first
    | exact⟨k+1,O0,by go_num,F,l.drew⟩
    | (exact P9)
  have n:Hid (¬a=c):=λh=>f (by rw[h]);generalize a.getD k ByteArray.empty=X at*;generalize c.getD k ByteArray.empty=Y at*;have q':=K_.2 (Ac f)
  go_wp2_with fail
  go_region
  all_goals go_wp2
  all_goals go_ret
  all_goals exact⟨I5 n.out,t.drew⟩
 obtain rfl:k=a.length:=O0;have E:Hid (a=c):=by
  exact Io m hd
 go_wp2;go_ret;exact⟨F_ E,t⟩
theorem a4j(a c:List T.F2)(z y:OA)(K J:Nat)(w:World)(hl:a.length<=1048576)(hl':c.length<=1048576)(x:T.U5 w z a)(v:T.U5 w y c):
 Calls prog 123 #[.slice z a.length K,.slice y c.length J] w λe w'=>Rb (a=c) e/\Bw w w':=by
 by_cases d:a.length=c.length;rotate_left
 ·have n:Hid (¬a=c):=λh=>d (by rw[h]);have hn1:¬(a.length:Int)=c.length:=O0
  go_in
  go_wp2;go_ret;exact⟨I5 n.out,J4 _ _⟩
 rw[<- d];have m:=U0 d;clear d;obtain⟨b,off,hc⟩:=T.o_ x;obtain⟨b',off',s⟩:=T.o_ v;have P:=U0 hc;have O:=U0 s;clear hc s x v
 go_in
 go_wp2;go_loopw[13] (λi wr=>∃(k:Nat),k<=a.length/\i=.int .i64 k/\Hid (∀j,j<k->a.getD j T.P8=c.getD j T.P8)/\Below w.heap.size w wr) (λi _=>a.length-(RowKit.intOf i).toNat);exact⟨0,I4 _,rfl,λj h=>absurd h (U7 _),J4 _ _⟩;obtain⟨k,hk2,rfl,hd,f⟩:=hrel;have q:=f;by_cases g:k<a.length
 ·obtain⟨ha,u,p⟩:=Zb P.out g;rcases O.out with E|⟨F,t,o⟩
  ·have d:=m.out;rw[E]at d;rw[d]at g;exact absurd g (U7 _)
  subst ha;subst F;have g0:=(f.cell (by exact u)).trans ((p k g).1);have g1:=(f.cell (by exact u)).trans ((p k g).2);have I:=(f.cell (by exact t)).trans ((o k (by have:=m.out;omega)).1);have H:=(f.cell (by exact t)).trans ((o k (by have:=m.out;omega)).2);clear p o;by_cases l:a.getD k T.P8=c.getD k T.P8
  ·have N:Hid (∀j,j<k+1->a.getD j T.P8=c.getD j T.P8):=λj hj=>by
    rcases P7 j k with h|h
    ·exact hd.out j h
    obtain rfl:j=k:=O0;exact l
   rw[<- l]at I H;generalize a.getD k T.P8=X at*;clear l hd
   go_wp2_with fail
   go_region
   all_goals go_wp2
   all_goals go_roundw
   all_goals first
    | exact⟨k+1,O0,by go_num,N,f.drew⟩
    | (exact P9)
  have n:Hid (¬a=c):=λh=>l (by rw[h]);generalize a.getD k T.P8=X at*;generalize c.getD k T.P8=Y at*;obtain⟨A,C⟩:=X;obtain⟨t2,B⟩:=Y;by_cases r:A=t2
  ·subst r;have D:¬C=B:=λh=>l (by rw[h]);have q3':=Ac D
   go_wp2_with fail
   go_region
   all_goals go_wp2
   all_goals go_ret
   all_goals exact⟨I5 n.out,q.drew⟩
  have q2':=Ac r
  go_wp2_with fail
  go_region
  all_goals go_wp2
  all_goals go_ret
  all_goals exact⟨I5 n.out,q.drew⟩
 obtain rfl:k=a.length:=O0;have L:Hid (a=c):=by
  exact Io m hd
 go_wp2;go_ret;exact⟨F_ L,q⟩
theorem a0r(x:Value)(n:Nat):zs [x] n=List.replicate n x:=by
 induction n with
 | zero=>rfl
 | succ n ih=>rw[jF,ih];rfl
theorem dY(x:Value)(hx:x.oneCell'=true)(n:Nat):∀v∈List.replicate n x,v.oneCell'=true:=λv hv=>by rw[(List.mem_replicate.1 hv).2];exact hx
theorem yK{n k m:Nat}{V Z:Value}(h:k+m<=n):splice (List.replicate k V++List.replicate (n-k) Z) k (List.replicate m V)=List.replicate (k+m) V++List.replicate (n-(k+m)) Z:=by
 unfold splice;rw[List.take_left' O4,Hz,List.drop_append,List.drop_eq_nil_of_le O4,Qb,Hz,List.drop_replicate,<- Jq,List.replicate_append_replicate]
 congr 2
 omega
theorem a2Z(n:Int)(w:World)(a:n=1\/n=2\/n=3\/n=4):Calls prog 305 #[.int .u64 1,.int .u64 n] w λe w'=>e=.returned (.tuple #[.int .u64 0,.int .u64 n])/\w'=w:=by
 rcases a with rfl|rfl|rfl|rfl
 all_goals
  go_in
  go_wp2;go_ret2;exact⟨rfl,rfl⟩
theorem a4v(n:Int)(w:World)(a:n=1\/n=2\/n=3\/n=4):Calls prog 251 #[.int .u64 1,.int .u64 n] w λe w'=>e=.returned (.tuple #[.int .u64 0,.int .u64 n])/\w'=w:=by
 go_in
 go_wp2_with fail
 refine(a2Z n w a).mono ?_;rintro e w1⟨rfl,rfl⟩;go_wp2;go_ret2;exact⟨rfl,rfl⟩
theorem a4N(n x:Nat)(w:World)(c:1<=n/\n<=4)(hx:x<w.heap.size)(hc:w.cell? ⟨x,0,none⟩=some (.int .i64 (-1))):
 Calls prog 181 #[.slice (some ⟨x,0,none⟩) 1 1,.int .i64 n] w λe w'=>(∃g,e=.returned (.slice (some ⟨g,0,none⟩) n n)/\w.heap.size<=g/\Cl w' g 3 (List.replicate n (.int .i64 (-1))))/\Bw w w':=by
 obtain⟨p,B,s,r,q⟩:=info_parts a1K;have hmk:∀u:World,(Instr.makeSlice 31 (vI (n:Int)) (vI (n:Int))).run prog u=
  .ok (vL (some (aW u 0)) n n) (u.alloc (.cells (List.replicate n (Value.int .i64 0)).toArray 3)):=λu=>by
  have h:=run_make (P:=prog) u 31 3 p vO underlying31 B s .i64 .i64 (n:Int) (n:Int) O0 (Int.le_refl _) (by rw[q];omega) O0;have e:=YJ [Value.int .i64 0] n;rw[a0r]at e;rw[<- e];simpa[r,Value.cells]using h
 have hu:IntKind.u64.wrap (n:Int)=n:=by obtain rfl|rfl|rfl|rfl:n=1\/n=2\/n=3\/n=4:=O0<;>rfl
 have hv:IntKind.i64.wrap (n:Int)=n:=by obtain rfl|rfl|rfl|rfl:n=1\/n=2\/n=3\/n=4:=O0<;>rfl
 go_in
 go_wp2_with fail
 refine(a4v n w O0).mono ?_;rintro e w1⟨rfl,t⟩;obtain rfl:=t.symm;have R:=U0 (U3 w (List.replicate n (Value.int .i64 0)) 3);have f:Bw w (w.alloc (.cells (List.replicate n (Value.int .i64 0)).toArray 3)):=P6;have z:=(f.cell (by exact hx)).trans hc;have J:Hid (∀j v,([vI (-1)]:List Value)[j]?=some v->(w.alloc (.cells (List.replicate n (Value.int .i64 0)).toArray 3)).cell? ((aA x 0).add j)=some v):=λj v h=>by
  match j with
  | 0=>obtain rfl:=D_ h;exact z
  | j+1=>simp at h
 have a:([vI (-1)]:List Value).length=Nat.min 1 n:=(Oq c.1).symm
 go_wp2_with(refine wpList_copy_splice rfl (.tmp 31) (.tmp 32) 31 31 rfl 3 underlying31 Y0 _ _ _ _ _ _ rfl rfl w.heap.size 0 (List.replicate n (Value.int .i64 0)) 3 R.out [vI (-1)] a (λ_=>⟨rfl,_,rfl,J.out⟩) X7 (by simp[Value.oneCell']) w.heap.size w f Y8 ?_;intro o E H)
 have O:Hid (Cl o w.heap.size 3 (List.replicate 1 (Value.int .i64 (-1))++List.replicate (n-1) (Value.int .i64 0))):=by
  have h:=E.out;have e:=yK (n:=n) (k:=0) (m:=1) (V:=vI (-1)) (Z:=vO) O0;simp only[List.replicate_zero,Qb,Nat.sub_zero,l7]at e;show _=_;rw[<- e];exact h
 go_loopw[8] (λi wr=>∃k:Nat,1<=k/\k<=n/\i=.int .i64 k/\Hid (Cl wr w.heap.size 3 (List.replicate k (Value.int .i64 (-1))++List.replicate (n-k) (Value.int .i64 0)))/\Below w.heap.size w wr) (λi _=>n-(RowKit.intOf i).toNat);exact⟨1,J9 _,c.1,rfl,O,H⟩;obtain⟨k,hk1,hk,rfl,b,d⟩:=hrel;by_cases hlt:k<n;rotate_left
 ·obtain rfl:k=n:=O0;have Q:Hid (Cl wr w.heap.size 3 (List.replicate k (Value.int .i64 (-1)))):=by
   have h:=b.out;rw[Hu,List.replicate_zero,Gv]at h;exact h
  go_wp2;go_ret;exact⟨⟨_,rfl,Y8,Q⟩,d⟩
 have L:Hid (∀j v,(List.replicate (min k (n-k)) (Value.int .i64 (-1)))[j]?=some v->wr.drew.cell? ((aW w 0).add j)=some v):=λj v h=>by
  have A:j<min k (n-k):=by have:=(Rl.1 h).1;simpa using this
  rw[Zq,l7];refine(b.out.cell j).trans ?_;rw[R_ X7,<- h,rQ,rQ,D8 O0,D8 A]
 go_wp2_with fail
 refine wp_region_held_drew (S:=λ_=>True) Y0 trivial λhH=>?_
 iterate 7 refine sq ?_
 refine rq 7 λK I=>?_;have a:(List.replicate (min k (n-k)) (Value.int .i64 (-1))).length=Nat.min k (n-k):=Hz;refine step_copy_splice rfl (.tmp 41) (.tmp 44) 31 31 rfl 3 underlying31 Y0 _ _ _ _ _ _ rfl rfl w.heap.size k (List.replicate k (Value.int .i64 (-1))++List.replicate (n-k) (Value.int .i64 0)) 3 b (List.replicate (min k (n-k)) (Value.int .i64 (-1))) a (λ_=>⟨Y7 O0,_,rfl,L⟩) X7 (dY _ rfl _) w.heap.size w (d.trans (J4 _ _).drew) Y8 ?_;intro l D F;have N:Hid (Cl l w.heap.size 3 (List.replicate (k+min k (n-k)) (Value.int .i64 (-1))++List.replicate (n-(k+min k (n-k))) (Value.int .i64 0))):=by
  show _=_;rw[<- yK O0];exact D
 rw[Hz];have hm1:1<=min k (n-k):=O0;have y:k+min k (n-k)<=n:=O0;have C:goInt ((min k (n-k):Nat):Int)=vI ((min k (n-k):Nat):Int):=rfl;rw[C];generalize min k (n-k)=m at*;have hkm:IntKind.i64.wrap ((k:Int)+(m:Int))=((k+m:Nat):Int):=by rw[oJ];omega
 refine X8 I trivial λhH=>?_
 iterate 2 refine sq ?_
 refine wdn ?_;go_wp2;go_roundw;exact⟨k+m,O0,y,by rw[Int.natCast_add],N,F⟩;exact P9
theorem a4t(n:Nat)(w:World)(b:1<=n/\n<=4):Calls prog 122 #[.int .i64 n] w λe w'=>(∃g,e=.returned (.slice (some ⟨g,0,none⟩) n n)/\w.heap.size<=g/\Cl w' g 3 (List.replicate n (.int .i64 (-1))))/\Bw w w':=by
 have a:Bw w (w.alloc (.cells #[vI (-1)] 3)):=P6
 go_in
 go_wp2_with fail
 refine(a4N n w.heap.size _ b O4 (by simp[go_sem])).mono ?_;rintro e w1⟨⟨g,rfl,d,h1⟩,f⟩;have c:=Q8 a.size d;have i:=U0 h1;have h:=U0 (P5 a f);go_wp2;go_ret;exact⟨⟨g,rfl,c,i⟩,h⟩
theorem c42(a c:List T.F2)(n d:OA)(o m:Nat)(w:World)(hl:a.length<=1048576)(hl':c.length<=1048576)(F:T.U5 w n a)(E:T.U5 w d c):
 Calls prog 42 #[.agg #[.slice n a.length o],.agg #[.slice d c.length m]] w λe w'=>Rb (a=c) e/\Bw w w':=by
 go_in
 go_upto_region 1 with fail
 have z:=U0 (G8 (U3 w [vL n a.length o] 46) (.cells #[vL d c.length m] 46));have y:Hid (Cl ((w.alloc (.cells #[vL n a.length o] 46)).alloc (.cells #[vL d c.length m] 46)) (w.heap.size+1) 46 [vL d c.length m]):=by show Cl _ _ _ _;have h:=U3 (w.alloc (.cells #[vL n a.length o] 46)) [vL d c.length m] 46;simpa using h
 have H:Hid (Bw w ((w.alloc (.cells #[vL n a.length o] 46)).alloc (.cells #[vL d c.length m] 46))):=P6.alloc O4 _;generalize (w.alloc (.cells #[vL n a.length o] 46)).alloc (.cells #[vL d c.length m] 46)=V at*;have x:=z.out.cell 0;have r:=y.out.cell 0;simp only[gz]at x r;by_cases f:a.length=c.length;rotate_left
 ·have t:Hid (¬a=c):=λh=>f (by rw[h]);have hn1:¬(a.length:Int)=c.length:=O0;go_wp2;go_ret;exact⟨I5 t.out,H.out⟩
 have s:=U0 f;rw[<- f]at r;obtain⟨b,off,hc⟩:=T.o_ F;obtain⟨b',off',B⟩:=T.o_ E;have HC:=U0 hc;have Z:=U0 B;have R:=U0 z.out.lt;have S:=U0 y.out.lt;clear hc B F E z y f;go_wp2;go_loopw[5] (λi wr=>∃(k:Nat),k<=a.length/\i=.int .i64 k/\Hid (∀j,j<k->a.getD j T.P8=c.getD j T.P8)/\Below V.heap.size V wr) (λi _=>a.length-(RowKit.intOf i).toNat);exact⟨0,I4 _,rfl,λj h=>absurd h (U7 _),J4 _ _⟩;obtain⟨k,hk2,rfl,hd,q⟩:=hrel
 replace x:=(q.cell (by exact R.out)).trans x
 replace r:=(q.cell (by exact S.out)).trans r
 have l:=U0 (P5 H.out q);by_cases p:k<a.length;rotate_left
 ·obtain rfl:k=a.length:=O0;have U:=U0 (Io s.out hd.out);go_wp2;go_ret;exact⟨F_ U.out,l.out⟩
 obtain⟨ha,D,v⟩:=Zb HC.out p;rcases Z.out with N|⟨O,C,u⟩
 ·have f:=s.out;rw[N]at f;rw[f]at p;exact absurd p (U7 _)
 subst ha;subst O;have g0:=(l.out.cell (by exact D)).trans (v k p).1;have g1:=(l.out.cell (by exact D)).trans (v k p).2;have Q:=(l.out.cell (by exact C)).trans (u k (by have:=s.out;omega)).1;have P:=(l.out.cell (by exact C)).trans (u k (by have:=s.out;omega)).2;clear v u;by_cases g:a.getD k T.P8=c.getD k T.P8
 ·have W:Hid (∀j,j<k+1->a.getD j T.P8=c.getD j T.P8):=λj hj=>by
   rcases P7 j k with h|h
   ·exact hd.out j h
   obtain rfl:j=k:=O0;exact g
  rw[<- g]at Q P;generalize a.getD k T.P8=X at*;clear g hd
  go_wp2_with fail
  go_region
  all_goals go_wp2
  all_goals go_roundw
  all_goals first
   | exact⟨k+1,O0,by go_num,W,q.drew⟩
   | (exact P9)
 have t:Hid (¬a=c):=λh=>g (by rw[h]);generalize a.getD k T.P8=X at*;generalize c.getD k T.P8=Y at*;obtain⟨I,K⟩:=X;obtain⟨t2,J⟩:=Y;by_cases A:I=t2
 ·subst A;have L:¬K=J:=λh=>g (by rw[h]);have q3':=Ac L;clear g
  go_wp2_with fail
  go_region
  all_goals go_wp2
  all_goals go_ret
  all_goals exact⟨I5 t.out,l.out.drew⟩
 have q2':=Ac A;clear g
 go_wp2_with fail
 go_region
 all_goals go_wp2
 all_goals go_ret
 all_goals exact⟨I5 t.out,l.out.drew⟩
