import Derived.Test.YtdgneicbmalnpaaGreatDooreEO
import Derived.Test.YtdgneicbmalnpaaGreatDoorvY
set_option linter.all false
set_option maxHeartbeats 0
set_option maxRecDepth 99999
open Go.Value renaming slice->Sa,string->Sb,int->Sc,pointer->Sd
open Go.IntKind renaming i64->Se
open Go.Obj renaming cells->Sg
namespace Go.Proofs.YtdgneicbmalnpaaGreatDoor
open Proofs.Tryz Go.RowKit Go.Maps
variable{w:World}{ts:LB}{W:Int}{t x:BY}{k:Nat}
theorem wH{N g tc:Nat}(h:w.ownsRow N 9 1 (Sa (some ⟨g,0,none⟩) ts.length tc) ts.length (ts.map Sb)):g<w.heap.size/\ts.length<=tc/\tc<=maxLen/\∀k,k<ts.length->w.cell? ⟨g,k,none⟩=some (Sb (ts.getD k ByteArray.empty)):=by
 have a:=h;rcases h.2 with⟨hv,_⟩|⟨g',cap,cur,hv,hg,b,h1,h2,_⟩
 ·cases hv
 simp only[Hu,Iw,Addr.mk.injEq,and_true]at hv;obtain⟨rfl,_,rfl⟩:=hv;refine⟨(Ya.1 b).1,h1,h2,λk hk=>?_⟩;rw[a.cellAt k O0];rw[yu,V8 hk];simp only[qy,List.getD,V8 hk,Dc]
theorem kT(a b:BY):Op.bytesLess a.toList b.toList=Bj a b:=by
 rw[BH];simp[Bj,ByteArray.toList_eq]
theorem DZ(ts:LB)(k:Nat)(hk:k<=ts.length)(h1:∀j,j<k->Bj (Y6 (ts.getD j ByteArray.empty) W) (Y6 t W)=true)(h2:k<ts.length->Bj (Y6 t W) (Y6 (ts.getD k ByteArray.empty) W)=true):Ym W t ts=ts.take k++[t]++ts.drop k:=by
 induction ts generalizing k with
 | nil=>
  obtain rfl:k=0:=by simpa using hk
  rfl
 | cons y r ih=>
  cases k with
  | zero=>
   have:=h2 J4;have e:Bj (Y6 t W) (Y6 y W)=true:=this;unfold Ym;rw[D8 e];rfl
  | succ k=>
   have e:Bj (Y6 y W) (Y6 t W)=true:=h1 0 O0;have b:¬Bj (Y6 t W) (Y6 y W)=true:=λh=>by
    have:=Vx e h;rw[Eh]at this;cases this
   unfold Ym;rw[U7 b];have:=ih k (by simpa using hk) (λj a=>h1 (j+1) O0) (λa=>h2 (by simpa using a));rw[this];rfl
theorem Wx{p:Nat}(a:p<ts.length):ts.getD p ByteArray.empty∈ts:=by
 have:ts.getD p ByteArray.empty=ts[p]:=by simp[List.getD,V8 a]
 rw[this];exact dh a
theorem XP(hA:Ol W ts)(hk:k<ts.length)(he:Y6 (ts.getD k ByteArray.empty) W=Y6 t W):Zb W t ts=(ts,decide (ts.getD k ByteArray.empty=t)):=by
 unfold Zb;rw[VG hA (Wx hk) he]
theorem IX(hA:Ol W ts)(hk:k<=ts.length)(h1:∀j,j<k->Bj (Y6 (ts.getD j ByteArray.empty) W) (Y6 t W)=true)(h2:k<ts.length->Bj (Y6 (ts.getD k ByteArray.empty) W) (Y6 t W)=false/\Y6 (ts.getD k ByteArray.empty) W≠Y6 t W):Zb W t ts=(ts.take k++[t]++ts.drop k,true):=by
 have f:∀i j,i<j->j<ts.length->Bj (Y6 (ts.getD i ByteArray.empty) W) (Y6 (ts.getD j ByteArray.empty) W)=true:=λi j b a=>by
  have:=iF.1 hA i j (by simpa using Nat.lt_trans b a) (by simpa using a) b;simp only[qx,gT]at this;simpa only[List.getD,V8 (Nat.lt_trans b a),V8 a,Dc]using this
 have d:∀j,j<ts.length->Y6 (ts.getD j ByteArray.empty) W≠Y6 t W:=λj a e=>by
  rcases Jt j k with h|rfl|h
  ·have:=h1 j h;rw[e,Eh]at this;cases this
  ·exact(h2 a).2 e
  have:=f k j h a;rw[e,(h2 O0).1]at this;cases this
 have hf:ts.find? (λy=>decide (Y6 y W=Y6 t W))=none:=by
  rw[cu];intro y c;obtain⟨j,a,rfl⟩:=Qe c;have:=d j a;simp only[List.getD,V8 a,Dc]at this;simpa using this
 unfold Zb;rw[hf];simp only[];rw[DZ ts k hk h1 (λh=>((OL (h2 h).2).resolve_left (by rw[(h2 h).1];exact Am)))]
theorem aI(a b:BY):(a.toList==b.toList)=decide (a=b):=by
 by_cases h:a=b
 ·subst h;simp
 have:a.toList≠b.toList:=λe=>h (by
  rw[ByteArray.toList_eq,ByteArray.toList_eq]at e;cases a;cases b;simpa using e)
 simp[this,h]
theorem fM{u:World}{base e size n:Nat}{v:Value}{xs:List Value}(h:u.ownsRow base e size v n xs)(hn:0<n):∃g c,v=Sa (some ⟨g,0,none⟩) n c:=by
 rcases h.2 with⟨_,h0⟩|⟨g,cap,cur,hv,_⟩
 ·omega
 exact⟨g,cap,hv⟩
theorem a1U{B:Nat}{t:TypeId}{a b c:Value}(h:Cl w B t [a,b,c]):w.cell? ⟨B,0,none⟩=some a/\w.cell? ⟨B,1,none⟩=some b/\w.cell? ⟨B,2,none⟩=some c:=⟨h.cell 0,h.cell 1,h.cell 2⟩
theorem a4B(W:Int)(ts:LB)(t:BY)(N g tc rn rc:Nat)(ra:OA)(w:World)(hA:Ol W ts)(hl:ts.length<=1000000)(hs:∀i,(ts.getD i ByteArray.empty).size<=1048700)(ht:t.size<=1048700)(ho:w.ownsRow N 9 1 (Sa (some ⟨g,0,none⟩) ts.length tc) ts.length (ts.map Sb))(hN:N<=w.heap.size):
 Calls prog 209 #[.agg #[Sc Se W,Sa (some ⟨g,0,none⟩) ts.length tc,Sa ra rn rc],Sb t] w λe w'=>(∃g' c',e=.returned (.tuple #[.agg #[Sc Se W,.slice (some ⟨g',0,none⟩) (Zb W t ts).1.length c',Sa ra rn rc],.bool (Zb W t ts).2])/\w'.ownsRow N 9 1 (.slice (some ⟨g',0,none⟩) (Zb W t ts).1.length c') (Zb W t ts).1.length ((Zb W t ts).1.map Sb))/\Bw w w':=by
 obtain⟨hgl,htc,htm,hcs⟩:=wH ho;have F:Hid (∀u,Below ((w.alloc (.cells [Sc Se W,Sa (some ⟨g,0,none⟩) ts.length tc,Sa ra rn rc].toArray 43)).alloc (.cells [Sc Se 0,Sa none 0 0,Sa none 0 0].toArray 43)).heap.size ((w.alloc (.cells [Sc Se W,Sa (some ⟨g,0,none⟩) ts.length tc,Sa ra rn rc].toArray 43)).alloc (.cells [Sc Se 0,Sa none 0 0,Sa none 0 0].toArray 43)) u->(Cl u w.heap.size 43 [Sc Se W,Sa (some ⟨g,0,none⟩) ts.length tc,Sa ra rn rc]/\Cl u (w.heap.size+1) 43 [Sc Se 0,Sa none 0 0,Sa none 0 0])/\Bw w u):=λu D=>⟨⟨(E8 (I4 w _ 43) _).below D (by simp;omega),((by simp:(w.alloc (.cells [Sc Se W,Sa (some ⟨g,0,none⟩) ts.length tc,Sa ra rn rc].toArray 43)).heap.size=w.heap.size+1)▸I4 (w.alloc (.cells [Sc Se W,Sa (some ⟨g,0,none⟩) ts.length tc,Sa ra rn rc].toArray 43)) [Sc Se 0,Sa none 0 0,Sa none 0 0] 43:Cl ((w.alloc (.cells [Sc Se W,Sa (some ⟨g,0,none⟩) ts.length tc,Sa ra rn rc].toArray 43)).alloc (.cells [Sc Se 0,Sa none 0 0,Sa none 0 0].toArray 43)) (w.heap.size+1) 43 [Sc Se 0,Sa none 0 0,Sa none 0 0]).below D J4⟩,E5 (U6.alloc J4 _) D⟩;have hV:w.heap.size+2<=((w.alloc (.cells [Sc Se W,Sa (some ⟨g,0,none⟩) ts.length tc,Sa ra rn rc].toArray 43)).alloc (.cells [Sc Se 0,Sa none 0 0,Sa none 0 0].toArray 43)).heap.size:=J4;have HO:=U0 ho;have HS:=U0 hs;clear ho hs
 go_in
 go_upto_region 1 with fail
 generalize ((w.alloc (.cells [Sc Se W,Sa (some ⟨g,0,none⟩) ts.length tc,Sa ra rn rc].toArray 43)).alloc (.cells [Sc Se 0,Sa none 0 0,Sa none 0 0].toArray 43))=V at*
 go_wp2_with(first|(refine J7 (F.o _ (O4 _ _)).1.1 rfl _ _ rfl rfl rfl Y0 ?_)|(refine(NC t W _ ht).mono ?_;rintro e w1⟨rfl,hb1⟩))
 go_loopw[7] (λi wr=>∃k:Nat,k<=ts.length/\i=Sc Se k/\Hid (∀j,j<k->Bj (Y6 (ts.getD j ByteArray.empty) W) (Y6 t W)=true)/\Hid (Below V.heap.size V wr)) (λi _=>ts.length-(Go.RowKit.intOf i).toNat);exact⟨0,Y4 _,rfl,λj J=>absurd J (U8 _),hb1⟩;obtain⟨k,hk,rfl,J,X⟩:=hrel
 go_upto_region 3 with fail
 go_cut[28] from 12 to 27 (λsb U=>Hid (Bw V U)/\sb=.bool (decide (k<ts.length/\Bj (Y6 (ts.getD k ByteArray.empty) W) (Y6 t W)=true)))
 case first=>
  have s:Hid (∀u,Bw V u->u.cell? ⟨w.heap.size,0,none⟩=some (Sc Se W)/\u.cell? ⟨w.heap.size,1,none⟩=some (Sa (some ⟨g,0,none⟩) ts.length tc)/\(k<ts.length->u.cell? ⟨g,k,none⟩=some (Sb (ts.getD k ByteArray.empty)))):=λu D=>have h:=(F.o u D);⟨h.1.1.cell 0,h.1.1.cell 1,λhk=>(h.2.cell (by exact hgl)).trans (hcs k hk)⟩
  have r:=X.o.drew;by_cases I:k<ts.length;rotate_left
  ·refine wp_region_held_drew (S:=λu=>u.cell? ⟨w.heap.size,0,none⟩=some (Sc Se W)/\u.cell? ⟨w.heap.size,1,none⟩=some (Sa (some ⟨g,0,none⟩) ts.length tc)) Y0 ⟨(s.o _ r).1,(s.o _ r).2.1⟩ λhH=>?_
   iterate 17 refine sq ?_
   refine wdn ?_
   go_wp2_with fail
   go_meet
   exact⟨r,by simp[I]⟩
  have hxl:=HS.o k;generalize ts.getD k ByteArray.empty=x at*;refine wp_region_held_drew (S:=λu=>u.cell? ⟨w.heap.size,0,none⟩=some (Sc Se W)/\u.cell? ⟨w.heap.size,1,none⟩=some (Sa (some ⟨g,0,none⟩) ts.length tc)/\u.cell? ⟨g,k,none⟩=some (Sb x)) Y0 ⟨(s.o _ r).1,(s.o _ r).2.1,(s.o _ r).2.2 I⟩ λhH=>?_
  iterate 13 refine sq ?_
  refine y_ 14 ?_;refine rq 13 λK d=>?_;go_simp;refine(NC x W _ hxl).mono ?_;rintro e u1⟨rfl,hb1⟩;have O:=E5 r hb1
  go_wp2_with fail
  refine G9 d ⟨(s.o _ O).1,(s.o _ O).2.1,(s.o _ O).2.2 I⟩ λhH=>?_;clear d K
  iterate 2 refine sq ?_
  refine wdn ?_
  go_wp2_with fail
  go_meet
  exact⟨O,by simp[I,kT]⟩
 obtain⟨X,rfl⟩:=hcut;by_cases hc:k<ts.length/\Bj (Y6 (ts.getD k ByteArray.empty) W) (Y6 t W)=true
 ·rw[X_ hc];go_wp2;go_roundw;exact⟨k+1,hc.1,by go_num,λj hj2=>by
   rcases Z7 j k with h|h
   ·exact J.o j h
   obtain rfl:j=k:=O0;exact hc.2,X⟩
  exact V9
 rw[j_ hc]
 replace hc:Hid (k<ts.length->Bj (Y6 (ts.getD k ByteArray.empty) W) (Y6 t W)=false):=λh=>by
  cases h2:Bj (Y6 (ts.getD k ByteArray.empty) W) (Y6 t W)
  ·rfl
  exact absurd ⟨h,h2⟩ hc
 go_upto_region 5 with fail
 go_cut[47] from 31 to 46 (λsb U=>Hid (Bw V U)/\sb=.bool (decide (k<ts.length/\Y6 (ts.getD k ByteArray.empty) W=Y6 t W)))
 case first=>
  have s:Hid (∀u,Bw V u->u.cell? ⟨w.heap.size,0,none⟩=some (Sc Se W)/\u.cell? ⟨w.heap.size,1,none⟩=some (Sa (some ⟨g,0,none⟩) ts.length tc)/\(k<ts.length->u.cell? ⟨g,k,none⟩=some (Sb (ts.getD k ByteArray.empty)))):=λu D=>have h:=(F.o u D);⟨h.1.1.cell 0,h.1.1.cell 1,λhk=>(h.2.cell (by exact hgl)).trans (hcs k hk)⟩
  have r:=X.o.drew;by_cases I:k<ts.length;rotate_left
  ·refine wp_region_held_drew (S:=λu=>u.cell? ⟨w.heap.size,0,none⟩=some (Sc Se W)/\u.cell? ⟨w.heap.size,1,none⟩=some (Sa (some ⟨g,0,none⟩) ts.length tc)) Y0 ⟨(s.o _ r).1,(s.o _ r).2.1⟩ λhH=>?_
   iterate 17 refine sq ?_
   refine wdn ?_
   go_wp2_with fail
   go_meet
   exact⟨r,by simp[I]⟩
  have hxl:=HS.o k;generalize ts.getD k ByteArray.empty=x at*;refine wp_region_held_drew (S:=λu=>u.cell? ⟨w.heap.size,0,none⟩=some (Sc Se W)/\u.cell? ⟨w.heap.size,1,none⟩=some (Sa (some ⟨g,0,none⟩) ts.length tc)/\u.cell? ⟨g,k,none⟩=some (Sb x)) Y0 ⟨(s.o _ r).1,(s.o _ r).2.1,(s.o _ r).2.2 I⟩ λhH=>?_
  iterate 13 refine sq ?_
  refine y_ 14 ?_;refine rq 13 λK d=>?_;go_simp;refine(NC x W _ hxl).mono ?_;rintro e u1⟨rfl,hb1⟩;have O:=E5 r hb1
  go_wp2_with fail
  refine G9 d ⟨(s.o _ O).1,(s.o _ O).2.1,(s.o _ O).2.2 I⟩ λhH=>?_;clear d K
  iterate 2 refine sq ?_
  refine wdn ?_
  go_wp2_with fail
  go_meet
  exact⟨O,by simp[I,aI]⟩
 obtain⟨X,rfl⟩:=hcut;by_cases he:k<ts.length/\Y6 (ts.getD k ByteArray.empty) W=Y6 t W
 ·rw[X_ he];have HP:=U0 (XP (t:=t) hA he.1 he.2)
  go_upto_region 6 with fail
  have s:Hid (∀u,Bw V u->Cl u w.heap.size 43 [Sc Se W,Sa (some ⟨g,0,none⟩) ts.length tc,Sa ra rn rc]/\u.cell? ⟨w.heap.size,1,none⟩=some (Sa (some ⟨g,0,none⟩) ts.length tc)/\u.cell? ⟨g,k,none⟩=some (Sb (ts.getD k ByteArray.empty))):=λu D=>have h:=F.o u D;⟨h.1.1,h.1.1.cell 1,(h.2.cell (by exact hgl)).trans (hcs k he.1)⟩
  have r:=X.o.drew;have I:=he.1;generalize ts.getD k ByteArray.empty=x at*;refine mG s r Y0 λhH=>?_;refine tq 0 hH ?_ (hv:=λu D=>N9 43 _ rfl (B:=w.heap.size) (j:=0) (cs:=[Sc Se W,Sa (some ⟨g,0,none⟩) ts.length tc,Sa ra rn rc]) rfl (λq v e=>by rw[Y8];exact(D.1.cell q).trans e) underlying43 rfl Y0)
  try simp only[qq]
  refine y_ 1 ?_;refine y_ 2 ?_;refine y_ 3 ?_;refine y_ 4 ?_;refine y_ 5 ?_;refine y_ 6 ?_;refine y_ 7 ?_;refine rq 8 λK d=>?_;refine qc rfl 43 _ _ rfl (j:=0) rfl rfl (F.o _ r).1.2 A8 (X5 rfl) Y0 ?_;intro E CE oz;have BE:=(F.o _ r).2.trans (oz.below (show w.heap.size<=w.heap.size+1 by omega));refine G9 d ⟨(s.o _ r).1.on oz (by omega),((s.o _ r).1.on oz (by omega)).cell 1,by have h:=(s.o _ r).2.2;simp only[World.cell?]at h ⊢;rw[oz.block g (by omega)];exact h⟩ λhH=>?_;clear d K;refine y_ 9 ?_;refine wdn ?_;obtain⟨e0,e1,e2⟩:=a1U (show Cl E _ 43 [Sc Se W,Sa (some ⟨g,0,none⟩) ts.length tc,Sa ra rn rc] from CE);go_wp2;refine P7 (v:=.tuple #[.agg #[Sc Se W,Sa (some ⟨g,0,none⟩) ts.length tc,Sa ra rn rc],.bool (x.toList==t.toList)]) (by simp[results,results209,go_sem,e0,e1,e2]) rfl ⟨⟨g,tc,by rw[HP.o,aI],by rw[HP.o];exact own_below HO.o BE⟩,BE⟩
 rw[j_ he];have HP:=U0 (IX hA hk J.o (λh=>⟨hc.o h,λe=>he ⟨h,e⟩⟩));clear he hc
 go_upto_region 7 with fail
 have HS1:Hid (∀u,Bw V u->∀j v,((ts.take k).map Sb)[j]?=some v->u.cell? ((⟨g,0,none⟩:Addr).add j)=some v):=λu D j v J=>by
  have hjl:j<k:=by have:=(ah.1 J).1;simp at this;omega
  rw[Jl,Y8,((F.o u D).2.cell (p:=⟨g,j,none⟩) hgl),hcs j O0];simpa[zC hjl,List.getD,show j<ts.length by omega]using J
 obtain⟨off,hoff,a9h⟩:∃off,(off=k\/ts.length<=k)/\∀u:World,(Instr.slice 22 (Sa (some ⟨g,0,none⟩) ts.length tc) (some (Sc Se k)) none none).run prog u=.ok (Sa (some ⟨g,off,none⟩) (ts.length-k) (tc-k)) u:=by
  obtain⟨i0,hi,hz0,hz1,hz2⟩:=info_parts' info9;refine⟨if tc=k then 0 else k,?_,λu=>?_⟩
  ·by_cases h:tc=k
   ·exact .inr O0
   exact .inl (by rw[U7 h])
  by_cases h:tc=k<;>simp[go_sem,Instr.slice,Instr.sliceBounds,Instr.sliceBound,asIntOf,hi,hz1,h,hk,underlying22]
 have HS3:Hid (∀u,Bw V u->∀j v,((ts.drop k).map Sb)[j]?=some v->u.cell? ((⟨g,off,none⟩:Addr).add j)=some v):=λu D j v J=>by
  have hjl:k+j<ts.length:=by have:=(ah.1 J).1;simp at this;omega
  obtain rfl:off=k:=hoff.resolve_right O0;rw[Jl,((F.o u D).2.cell (p:=⟨g,off+j,none⟩) hgl),hcs (off+j) hjl];simpa[List.getD,hjl]using J
 clear hoff;have H:Hid (∀u,Bw V u->u.cell? ⟨w.heap.size,1,none⟩=some (Sa (some ⟨g,0,none⟩) ts.length tc)):=λu D=>(F.o u D).1.1.cell 1;have HO1:Hid (∀l:LB,∀u∈l.map Sb,u.oneCell'=true):=λl q Z=>by obtain⟨t,_,rfl⟩:=Rh.1 Z;rfl
 have Y:Inf prog 9 1:=Jc Y0;have hkc:k<=tc:=O0;have HE_:Hid (∀(y:World)(a c n:Nat)(z:World),n=(ts.take k++[t]++ts.drop k).length->Bw V y->y.ownsRow V.heap.size 9 1 (Sa (some ⟨a,0,none⟩) n c) n ((ts.take k).map Sb++[Sb t]++(ts.drop k).map Sb)->Jr w.heap.size y z->Cl z w.heap.size 43 [Sc Se W,Sa (some ⟨a,0,none⟩) n c,Sa ra rn rc]->Cl z w.heap.size 43 [Sc Se W,.slice (some ⟨a,0,none⟩) (ts.take k++[t]++ts.drop k).length c,Sa ra rn rc]/\Cl z (w.heap.size+1) 43 [Sc Se 0,Sa none 0 0,Sa none 0 0]/\z.ownsRow V.heap.size 9 1 (.slice (some ⟨a,0,none⟩) (ts.take k++[t]++ts.drop k).length c) (ts.take k++[t]++ts.drop k).length ((ts.take k++[t]++ts.drop k).map Sb)/\Bw w z):=λy a c n z hn f R hs C=>by
  subst hn;exact⟨C,(F.o y f).1.2.on hs (by omega),Z4 (show y.ownsRow V.heap.size 9 1 _ _ ((ts.take k++[t]++ts.drop k).map Sb) by simpa using R) (λq Z=>hs.block q (by have:=X4 R Z;omega)),(F.o y f).2.trans (hs.below A8)⟩
 try simp only[qq]
 go_cut[] from 56 to 70 (λU=>∃a c:Nat,Hid (Cl U w.heap.size 43 [Sc Se W,.slice (some ⟨a,0,none⟩) (ts.take k++[t]++ts.drop k).length c,Sa ra rn rc]/\Cl U (w.heap.size+1) 43 [Sc Se 0,Sa none 0 0,Sa none 0 0]/\U.ownsRow V.heap.size 9 1 (.slice (some ⟨a,0,none⟩) (ts.take k++[t]++ts.drop k).length c) (ts.take k++[t]++ts.drop k).length ((ts.take k++[t]++ts.drop k).map Sb)/\Bw w U))
 case first=>
  have b:=X.o.drew;refine wrl 15 H b Y0 λhH=>?_;generalize wc.drew=y at*;refine lq 1 hH ?_
  try simp only[qq]
  refine lq 2 hH ?_
  try simp only[qq]
  refine lq 3 hH ?_
  try simp only[qq]
  refine lq 4 hH ?_
  try simp only[qq]
  refine lq 6 hH ?_
  try simp only[qq]
  refine lq 9 hH ?_
  try simp only[qq]
  refine lq 10 hH ?_
  try simp only[qq]
  refine lq 11 hH ?_
  try simp only[qq]
  refine lq 12 hH ?_
  try simp only[qq]
  refine Gs (rs:=[0, 7]) Y0 J4 (x_.cons U5 (o:=⟨some 56,.buildSlice 22 0 #[],22,_,_,none⟩) rfl (λK d=>?_) (x_.cons U5 (o:=⟨some 63,.buildSlice 22 1 #[(0,.tmp 62)],22,_,_,none⟩) rfl (λK d=>?_) x_.nil))
  focus
   go_simp;obtain⟨y0,f⟩:∃L:World,L=y.alloc (Sg #[] 9):=⟨_,rfl⟩;have R:Hid (y0.ownsRow V.heap.size 9 1 (Sa (some ⟨y.heap.size,0,none⟩) 0 0) 0 []):=U0 (f▸oK (base:=V.heap.size) (e:=9) (size:=1) y #[] 0 b.size (Y4 _) rfl)
   replace b:=E5 b (f▸U6)
   rw[<- f];clear f;refine G9 d (H.o _ b) λhH=>?_;clear d K;refine Gs (rs:=[5, 7]) Y0 J4 (x_.cons U5 (o:=⟨some 61,.call ⟨.builtin .append,#[.tmp 56,.tmp 60],#[22,22]⟩,22,_,_,none⟩) rfl (λK d=>?_) (x_.cons U5 (o:=⟨some 63,.buildSlice 22 1 #[(0,.tmp 62)],22,_,_,none⟩) rfl (λK d=>?_) x_.nil))
   ·refine Ob rfl _ _ 22 rfl V.heap.size 9 1 underlying22 Y U5 _ 0 [] rfl R.o _ k ((ts.take k).map Sb) rfl (.inr ⟨⟨g,0,none⟩,tc,rfl,by simp;omega,HS1.o _ b⟩) (HO1.o _) O0 b.size ?_;intro v5 y05 m A _;rw[Y8,Y9]at m;obtain⟨a5,a6P,rfl⟩:=x9 m
    replace b:=b.trans (m_ A (λk e=>X4 R.o e) b.size)
    replace R:=U0 m
    clear m A;refine G9 d (H.o _ b) λhH=>?_;clear d K;refine SC 7 λK d=>?_;go_simp;obtain⟨a8q,f⟩:∃L:World,L=y05.alloc (Sg #[Sb t] 9):=⟨_,rfl⟩;have Q:=U0 (f▸I4 y05 [Sb t] 9 : Cl a8q y05.heap.size 9 [Sb t])
    replace R:=U0 (own_below R.o (f▸U6))
    replace b:=E5 b (f▸U6)
    rw[<- f];clear f;refine G9 d (H.o _ b) λhH=>?_;clear d K;refine SC 8 λK d=>?_;refine Ob rfl _ _ 22 rfl V.heap.size 9 1 underlying22 Y U5 _ k ((ts.take k).map Sb) rfl R.o _ 1 [Sb t] rfl (.inr ⟨_,1,rfl,rfl,yh Q.o⟩) (X5 rfl) O0 b.size ?_;intro v8 y8 m A _;obtain⟨a8,c9,rfl⟩:=x9 m
    replace b:=b.trans (m_ A (λk e=>X4 R.o e) b.size)
    replace R:=U0 m
    clear m A Q;refine G9 d (H.o _ b) λhH=>?_;clear d K;refine SC 13 λK d=>?_;refine Ob rfl _ _ 22 rfl V.heap.size 9 1 underlying22 Y U5 _ (k+1) ((ts.take k).map Sb++[Sb t]) rfl R.o _ (ts.length-k) ((ts.drop k).map Sb) rfl (.inr ⟨⟨g,off,none⟩,tc-k,rfl,by simp,HS3.o _ b⟩) (HO1.o _) O0 b.size ?_;intro v13 y13 m A _;obtain⟨a13,c15,rfl⟩:=fM m O0
    replace b:=b.trans (m_ A (λk e=>X4 R.o e) b.size)
    replace R:=U0 m
    clear m A;refine G9 d (H.o _ b) λhH=>?_;clear d K;refine lq 14 hH ?_
    try simp only[qq]
    refine lzq λK d=>?_;refine uo rfl (Ql 22 _ _ rfl (B:=w.heap.size) (j:=1) rfl rfl ⟨_,H.o _ b⟩ ((F.o _ b).1.1.opn 1) Y0) ?_;have hs:=u_ y13 w.heap.size 1 (Sa (some ⟨a13,0,none⟩) (k+1+(ts.length-k)) c15);have P:=U0 (HE_.o _ a13 c15 _ _ L8 b R.o hs ((F.o _ b).1.1.set 1 _));refine d.o _ _ ?_;clear d K
    try simp only[qq]
    refine Ah Y0 ?_ _
    go_wp2_with fail
    go_meet
    exact⟨_,_,P⟩
   go_simp;obtain⟨y07,f⟩:∃L:World,L=y0.alloc (Sg #[Sb t] 9):=⟨_,rfl⟩;have Q:=U0 (f▸I4 y0 [Sb t] 9 : Cl y07 y0.heap.size 9 [Sb t]);have NQ:=U0 (Nat.ne_of_gt (o_ R.o rfl))
   replace R:=U0 (own_below R.o (f▸U6))
   replace b:=E5 b (f▸U6)
   rw[<- f];clear f;refine G9 d (H.o _ b) λhH=>?_;clear d K;refine SC 5 λK d=>?_;refine Ob rfl _ _ 22 rfl V.heap.size 9 1 underlying22 Y U5 _ 0 [] rfl R.o _ k ((ts.take k).map Sb) rfl (.inr ⟨⟨g,0,none⟩,tc,rfl,by simp;omega,HS1.o _ b⟩) (HO1.o _) O0 b.size ?_;intro v5 a8r m A _;rw[Y8,Y9]at m;obtain⟨a5,a6P,rfl⟩:=x9 m
   replace Q:=U0 ((A.block _ Q.o.lt (λe=>NQ.o (C_ e))).trans Q.o : Cl a8r _ 9 [Sb t])
  rotate_left
  focus
   go_simp;obtain⟨y7,f⟩:∃L:World,L=y.alloc (Sg #[Sb t] 9):=⟨_,rfl⟩;have Q:=U0 (f▸I4 y [Sb t] 9 : Cl y7 y.heap.size 9 [Sb t])
   replace b:=E5 b (f▸U6)
   rw[<- f];clear f;refine G9 d (H.o _ b) λhH=>?_;clear d K;refine SC 0 λK d=>?_;go_simp;obtain⟨y70,f⟩:∃L:World,L=y7.alloc (Sg #[] 9):=⟨_,rfl⟩;have R:Hid (y70.ownsRow V.heap.size 9 1 (Sa (some ⟨y7.heap.size,0,none⟩) 0 0) 0 []):=U0 (f▸oK (base:=V.heap.size) (e:=9) (size:=1) y7 #[] 0 b.size (Y4 _) rfl);have NQ:=U0 (Nat.ne_of_lt Q.o.lt)
   replace Q:=U0 (Q.o.below (f▸U6) Q.o.lt)
   replace b:=E5 b (f▸U6)
   rw[<- f];clear f;refine G9 d (H.o _ b) λhH=>?_;clear d K;refine SC 5 λK d=>?_;refine Ob rfl _ _ 22 rfl V.heap.size 9 1 underlying22 Y U5 _ 0 [] rfl R.o _ k ((ts.take k).map Sb) rfl (.inr ⟨⟨g,0,none⟩,tc,rfl,by simp;omega,HS1.o _ b⟩) (HO1.o _) O0 b.size ?_;intro v5 a8s m A _;rw[Y8,Y9]at m;obtain⟨a5,a6P,rfl⟩:=x9 m
   replace Q:=U0 ((A.block _ Q.o.lt (λe=>NQ.o (C_ e))).trans Q.o : Cl a8s _ 9 [Sb t])
  all_goals
   replace b:=b.trans (m_ A (λk e=>X4 R.o e) b.size)
   replace R:=U0 m
   clear m A;refine G9 d (H.o _ b) λhH=>?_;clear d K;refine SC 8 λK d=>?_;refine Ob rfl _ _ 22 rfl V.heap.size 9 1 underlying22 Y U5 _ k ((ts.take k).map Sb) rfl R.o _ 1 [Sb t] rfl (.inr ⟨_,1,rfl,rfl,yh Q.o⟩) (X5 rfl) O0 b.size ?_;intro v8 y8 m A _;obtain⟨a8,c9,rfl⟩:=x9 m
   replace b:=b.trans (m_ A (λk e=>X4 R.o e) b.size)
   replace R:=U0 m
   clear m A Q;refine G9 d (H.o _ b) λhH=>?_;clear d K;refine SC 13 λK d=>?_;refine Ob rfl _ _ 22 rfl V.heap.size 9 1 underlying22 Y U5 _ (k+1) ((ts.take k).map Sb++[Sb t]) rfl R.o _ (ts.length-k) ((ts.drop k).map Sb) rfl (.inr ⟨⟨g,off,none⟩,tc-k,rfl,by simp,HS3.o _ b⟩) (HO1.o _) O0 b.size ?_;intro v13 y13 m A _;obtain⟨a13,c15,rfl⟩:=fM m O0
   replace b:=b.trans (m_ A (λk e=>X4 R.o e) b.size)
   replace R:=U0 m
   clear m A;refine G9 d (H.o _ b) λhH=>?_;clear d K;refine lq 14 hH ?_
   try simp only[qq]
   refine lzq λK d=>?_;refine uo rfl (Ql 22 _ _ rfl (B:=w.heap.size) (j:=1) rfl rfl ⟨_,H.o _ b⟩ ((F.o _ b).1.1.opn 1) Y0) ?_;have hs:=u_ y13 w.heap.size 1 (Sa (some ⟨a13,0,none⟩) (k+1+(ts.length-k)) c15);have P:=U0 (HE_.o _ a13 c15 _ _ L8 b R.o hs ((F.o _ b).1.1.set 1 _));refine d.o _ _ ?_;clear d K
   try simp only[qq]
   refine Ah Y0 ?_ _
   go_wp2_with fail
   go_meet
   exact⟨_,_,P⟩
 obtain⟨a,c,P⟩:=hcut;generalize hn:ts.take k++[t]++ts.drop k=T at*
 go_wp2_with(first|(refine yc P.o.1 rfl 43 _ rfl rfl underlying43 rfl Y0 ?_)|(refine N7 rfl 43 _ _ rfl (j:=0) rfl rfl P.o.2.1 A8 (X5 rfl) Y0 ?_;intro zz CE oq))
 obtain⟨e0,e1,e2⟩:=a1U (show Cl zz _ 43 [Sc Se W,Sa (some ⟨a,0,none⟩) T.length c,Sa ra rn rc] from CE);refine P7 (v:=.tuple #[.agg #[Sc Se W,Sa (some ⟨a,0,none⟩) T.length c,Sa ra rn rc],.bool true]) (by simp[results,results209,go_sem,e0,e1,e2]) rfl ⟨⟨a,c,by rw[HP.o],by rw[HP.o];exact I7 (Z4 P.o.2.2.1 (λq Z=>oq.block q (by have:=X4 P.o.2.2.1 Z;omega))) (by omega)⟩,P.o.2.2.2.trans (oq.below (by omega))⟩
theorem a0g(c:Int)(s a:BY)(w:World)(hf:KC c s=a)(hs:s.size<=1048700):Calls prog 210 #[.agg #[Sc Se c,Sb s]] w λe w'=>e=.returned (Sb a)/\Bw w w':=by
 rw[<- hf];exact c210 c s w hs
theorem VP(W:Int)(t:BY)(ts:LB):(Ym W t ts).length=ts.length+1:=by
 induction ts with
 | nil=>rfl
 | cons y r ih=>
  unfold Ym;split
  ·rfl
  rw[f_,ih,f_]
theorem yS(h:x∈Ym W t ts):x=t\/x∈ts:=by
 induction ts with
 | nil=>exact .inl (Zj.1 h)
 | cons y r ih=>
  unfold Ym at h;split at h
  ·rcases qf.1 h with h|h
   ·exact .inl h
   exact .inr h
  rcases qf.1 h with h|h
  ·exact .inr (h▸Gt)
  exact(ih h).imp id (Ug _)
theorem ZN(W:Int)(t:BY)(ts:LB):(Zb W t ts).1.length<=ts.length+1:=by
 unfold Zb;split
 ·exact Hq _
 exact Vf (VP W t ts)
theorem OU(h:x∈(Zb W t ts).1):x=t\/x∈ts:=by
 unfold Zb at h;split at h
 ·exact .inr h
 exact yS h
theorem zH(W:Int)(a:LB):∀s:LB×Bool,(I8 W a s).1.length<=s.1.length+a.length:=by
 induction a with
 | nil=>exact λs=>Y7 _
 | cons t r ih=>
  intro s;have h1:=ih ((Zb W t s.1).1,s.2&&(Zb W t s.1).2);have h2:=ZN W t s.1;show(I8 W r _).1.length<=_;rw[f_];simp only[]at h1;omega
theorem jC(a:LB):∀s:LB×Bool,x∈(I8 W a s).1->x∈a\/x∈s.1:=by
 induction a with
 | nil=>exact λs h=>.inr h
 | cons t r ih=>
  intro s h;rcases ih ((Zb W t s.1).1,s.2&&(Zb W t s.1).2) h with h|h
  ·exact .inl (Ug _ h)
  rcases OU h with h|h
  ·exact .inl (h▸Gt)
  exact .inr h
theorem Zy(W:Int)(a:LB)(t:BY)(s:LB×Bool):I8 W (a++[t]) s=((Zb W t (I8 W a s).1).1,(I8 W a s).2&&(Zb W t (I8 W a s).1).2):=by
 rw[Gn];rfl
theorem CO(ls:List L4):(F_ ls).length<=ls.length:=by
 induction ls with
 | nil=>exact Y7 _
 | cons x r ih=>
  unfold F_;split
  ·exact kJ ih
  exact Nat.succ_le_succ ih
def YM(ls:List L4)(k:Nat):LB:=(F_ (ls.take k)).map λr=>KC r.1 r.2
theorem DV{ls:List L4}(hk:k<ls.length):YM ls (k+1)=YM ls k++(if (ls.getD k K_).has then [] else [KC (ls.getD k K_).cd (ls.getD k K_).tx]):=by
 have e:ls.take (k+1)=ls.take k++[ls.getD k K_]:=by
  rw[SB hk];simp only[List.getD,V8 hk,Dc]
 unfold YM;rw[e,Vw,Nl];split<;>rfl
theorem rZ(ls:List L4)(k:Nat):(YM ls k).length<=ls.length:=by
 unfold YM;rw[Ve];have:=CO (ls.take k);have:=List.length_take_le' k ls;omega
theorem a2i(ls:List L4)(c:Int)(t:BY):Xm ls c t=YM ls ls.length++[KC c t]:=by
 unfold Xm YM;rw[Xt,Nl];rfl
open Go.RowKit
theorem sO(s:BY)(w:World)(h1:1<=s.size)(h16:s.size<=16000)(hw:Y1 ((Z8 10 s.data.toList).getD 0 [])≠Ul/\Y1 ((Z8 10 s.data.toList).getD 0 [])≠Je/\Y1 ((Z8 10 s.data.toList).getD 0 [])≠Si/\Y1 ((Z8 10 s.data.toList).getD 0 [])≠Qh/\Y1 ((Z8 10 s.data.toList).getD 0 [])≠qh):
 Calls prog 108 #[Sb s] w λe w'=>Is4 s.data.toList w' e/\Bw w w':=by
 have Q:Bw w ((w.alloc (Sg zE.toArray 171)).alloc (Sg zE.toArray 171)):=U6.alloc J4 _;have I:s.data.toList.length=s.size:=J4;have X:Hid (s.data.toList≠[]):=λh=>by rw[h]at I;simp at I;omega
 have hse:(s.toList==[])=false:=by
  rw[ByteArray.toList_eq];exact S_.2 X.o
 have a7A:¬s.toList=[]:=by simpa using hse
 have a7B:decide (16000<(s.size:Int))=false:=L8
 go_in
 go_wp2_with fail
 refine(c146 s 10 _ O0).mono ?_;rintro e w1⟨⟨g2,cp,rfl,L,j⟩,N⟩;have H:((w.alloc (Sg zE.toArray 171)).alloc (Sg zE.toArray 171)).heap.size=w.heap.size+2:=J4;have b:Below (w.heap.size+2) ((w.alloc (Sg zE.toArray 171)).alloc (Sg zE.toArray 171)) w1:=N.mono J4;have a6W:w.heap.size+2<=g2:=by have h:=L;simp at h;omega
 have hz1:w.heap.size+2<=w1.heap.size:=by have h:=b.size;rw[H]at h;exact h
 have R:=((X9 w zE 171).below U6 J4).below b O0;have D:=((og w zE.toArray 171).below U6 J4).below b O0;have S:=J6.below (by have h:=X9 (w.alloc (Sg zE.toArray 171)) zE 171;simp at h;exact h) b O0;have E:=J9.below (by have h:=og (w.alloc (Sg zE.toArray 171)) zE.toArray 171;simp at h;exact h) b O0;have l:=Q.trans (b.mono O0);have q:=Zn 10 s.data.toList;have v:=zi 10 s.data.toList;clear N L H b;obtain⟨m,x⟩:∃m,m=Z8 10 s.data.toList:=⟨_,rfl⟩;rw[<- x]at j q v hw ⊢;have n:=U0 x.symm;have HCS:Hid (∀k,(m.getD k []).length<=16000):=λk=>X7 (v k) O0;obtain⟨F,hF⟩:∃F,F=m.getD 0 []:=⟨_,rfl⟩;have p:=U0 hF.symm;have hFl:F.length<=16000:=by rw[hF];exact HCS.o 0
 rw[<- hF]at hw;have a6X:=q.1;have a7u:m.length<=16001:=by have:=q.2;omega
 have c0:w1.cell? (aA g2 0)=some (vS (U3 F)):=by rw[hF];exact j.2 0 a6X
 have a6Y:=j.1;clear hF x v q
 go_wp2_with fail
 refine(Zv F _ O0 1 O0 O0).mono ?_;rintro e d⟨⟨g3,cp3,rfl,hg3,u⟩,a⟩;have Z:=a.size;have bR:=J6.below R a O0;have Y:=J9.below D a O0;have bM:=J6.below S a O0;have oM:=J9.below E a O0;have hL3:=U0 (Qg j a);have hB3:=E5 l a;have d0:d.cell? (aA g3 0)=some (vS (U3 (Y1 F))):=u.2 0 (by simp[Q_]);have a7k:=u.1;have hrs:=X8 F;have J:U3 (g_ F 1)=U3 (Y2 F):=rfl;rw[J];clear J a R D S E j l u c0 Q;have hMz:w.heap.size+1<d.heap.size:=O0;have hRB:w.heap.size<w.heap.size+1:=O0;have a7l:w.heap.size+1<g3:=O0;have a7v:w.heap.size+1<g2:=O0;have a6Z:g2<d.heap.size:=O0;clear hg3 a6Y a6W hz1 Z;generalize w.heap.size+1=C at*;have r:Hid (VW s.data.toList Fj):=kR _ (by rw[n.o,p.o];exact hw.1) (by rw[n.o,p.o];exact hw.2.1) (by rw[n.o,p.o];exact hw.2.2.1) (by rw[n.o,p.o];exact hw.2.2.2.1) (by rw[n.o,p.o];exact hw.2.2.2.2);have n4:((U3 (Y1 F)).toList==[114,97,110])=false:=by
  rw[ByteArray.toList_eq,a_];exact S_.2 hw.1
 have m4:¬(U3 (Y1 F)).toList=[114,97,110]:=by simpa using n4
 have n1:((U3 (Y1 F)).toList==[101,112,111,99,104])=false:=by
  rw[ByteArray.toList_eq,a_];exact S_.2 hw.2.1
 have m1:¬(U3 (Y1 F)).toList=[101,112,111,99,104]:=by simpa using n1
 have n2:((U3 (Y1 F)).toList==[102,105,108,101])=false:=by
  rw[ByteArray.toList_eq,a_];exact S_.2 hw.2.2.1
 have m2:¬(U3 (Y1 F)).toList=[102,105,108,101]:=by simpa using n2
 have n3:((U3 (Y1 F)).toList==[100,114,111,112])=false:=by
  rw[ByteArray.toList_eq,a_];exact S_.2 hw.2.2.2.1
 have m3:¬(U3 (Y1 F)).toList=[100,114,111,112]:=by simpa using n3
 have n5:((U3 (Y1 F)).toList==[99,108,101,97,114])=false:=by
  rw[ByteArray.toList_eq,a_];exact S_.2 hw.2.2.2.2
 have m5:¬(U3 (Y1 F)).toList=[99,108,101,97,114]:=by simpa using n5
 clear hw;have A:J6 d C (Fj.c none 0):=bM;have U:=bR;have W:=Y;have P:=hB3;have hMU:=hMz;have O:w.heap.size<d.heap.size:=O0;have B:O9 d none Fj.ls:=.inl rfl;have K:=lM;have a7m:∀g o,(none:OA)=some (aA g o)->g≠w.heap.size:=λ_ _ h=>by cases h
 generalize U3 (Y1 F)=wd at*
 go_wp2_with(refine Cb (by rfl) 171 (.tmp 4) rfl C rfl ((Fj).c none 0) _ A underlying171 rfl Y0 ?_)
 refine(c152 (Fj) none 0 _ K B).mono ?_;rintro e U1⟨⟨i,rfl,hT⟩,f⟩;have HM1:=J6.below A f hMU;have t:=J6.below U f O;have V:=J9.below W f O;have l:=E5 P f;have a7n:=Q7 B f;clear A U W B P f;by_cases he:i.data.toList=s.data.toList
 ·have z:=U0 (Us r hT X he);have y:i.toList=s.toList:=by rw[ByteArray.toList_eq,ByteArray.toList_eq];exact he
  have e1:(i.toList==s.toList)=true:=by simpa using y
  clear hT r he
  go_wp2_with(first|refine Cc rfl 171 (.tmp 4) rfl C rfl ((Fj).c none 0) _ HM1 underlying171 rfl Y0 ?_|refine H8 rfl 171 (.tmp 2) (.tmp 123) rfl w.heap.size 0 rfl ((Fj).c none 0) rfl (l_ t _ rfl) V (z_.uD _ _ _) Y0 rfl ?_)
  exact sJ (Fj) none 0 true z (λh=>by cases h) K (gm _ a7n a7m) rfl rfl rfl t l
 have z:=U0 (Dw r hT he);have y:¬i.toList=s.toList:=by rw[ByteArray.toList_eq,ByteArray.toList_eq];exact he
 have e1:(i.toList==s.toList)=false:=by simpa using y
 clear hT r he
 go_wp2_with(refine H8 rfl 171 (.tmp 2) (.tmp 122) rfl w.heap.size 0 rfl zE rfl (l_ t zE rfl) V (by simp[zE,Value.oneCell']) Y0 rfl ?_)
 exact ql z rfl rfl rfl t l
end Go.Proofs.YtdgneicbmalnpaaGreatDoor
namespace Go.Proofs.YtdgneicbmalnpaaGreatDoor.T
open Proofs.Tryz Go.RowKit
variable{w u:World}{base size n:Nat}{e t:TypeId}{v:Value}{xs:List Value}
theorem row0(w:World)(e:TypeId)(size:Nat)(a:base<=w.heap.size):(w.alloc (Sg #[] e)).ownsRow base e size (Sa (some ⟨w.heap.size,0,none⟩) 0 0) 0 []:=
 ⟨J4,.inr ⟨w.heap.size,0,#[],rfl,a,heap_alloc_new w _,Y7 _,U5,J4,J4⟩⟩
theorem qZ(fs:List F2)(k:Nat)(h:k<fs.length):(Dy fs)[k*2]?=some (Sb (fs.getD k o9).nm):=by
 induction fs generalizing k with
 | nil=>cases h
 | cons x r ih=>
  cases k with
  | zero=>simp[Dy]
  | succ k=>
   have:=ih k (by simpa using h);rw[ak];simpa[Dy]using this
theorem yL(a b:List F2):Dy (a++b)=Dy a++Dy b:=Vo
theorem QS(l:List F2)(k:Nat):Dy (l.take k)=(Dy l).take (k*2):=by
 induction l generalizing k with
 | nil=>simp[Dy]
 | cons x r ih=>
  cases k with
  | zero=>simp[Dy]
  | succ k=>rw[ak];have:=ih k;simp[Dy]at this ⊢;exact this
theorem jU(l:List F2)(k:Nat):Dy (l.drop k)=(Dy l).drop (k*2):=by
 induction l generalizing k with
 | nil=>simp[Dy]
 | cons x r ih=>
  cases k with
  | zero=>simp[Dy]
  | succ k=>rw[ak];have:=ih k;simp[Dy]at this ⊢;exact this
theorem aN(h:w.ownsRow base e size v n xs)(i m:Nat)(hk:i+m<=n)(c cap:Nat)(a:OA)(hv:v=Sa a n cap)(hc:m=0\/cap≠i)(b:∀g,v.ownBlock=some g->u.heap[g]?=w.heap[g]?):Src u (Sa (if cap=i then a else a.map (·.add (i*size))) m c) size m ((xs.drop (i*size)).take (m*size)):=by
 rcases h.2 with⟨h1,h2⟩|⟨g,cp,cur,h1,hb,f,hnc,hcm,hcs,d⟩
 ·subst h2;obtain rfl:=Nat.le_zero.1 (X7 (Nat.le_add_left m i) hk);have:a=none:=by rw[h1]at hv;injection hv with h;exact h.symm
  subst this;exact .inl ⟨⟨c,J4⟩,rfl,J4⟩
 have:a=some ⟨g,0,none⟩/\cap=cp:=by rw[h1]at hv;injection hv with h h2 h3;exact⟨h.symm,h3.symm⟩
 obtain⟨rfl,rfl⟩:=this;by_cases h0:m=0
 ·subst h0;refine .inr ⟨if cap=i then⟨g,0,none⟩ else(⟨g,0,none⟩:Addr).add (i*size),c,by split<;>rfl,J4,λj x e=>by simp at e⟩
 rw[U7 (hc.resolve_left h0)];have hm:(i+m)*size<=n*size:=Ro _ hk;rw[Nat.add_mul]at hm;refine .inr ⟨(⟨g,0,none⟩:Addr).add (i*size),c,rfl,by simp;have:=h.1;omega,λj x e=>?_⟩;rw[ny]at e;split at e;rotate_left
 ·cases e
 rw[vG,<- d,ny]at e;split at e;rotate_left
 ·cases e
 rw[qo,qo,Lib.cell_of_heap ((b g (by rw[h1];rfl)).trans f)];simpa using e
theorem a0Q{va:OA}{a:Nat}{gs:List F2}(h:w.ownsRow base 169 2 (Sa va gs.length a) gs.length (Dy gs)){k:Nat}(hk:k<gs.length):∃g,va=some ⟨g,0,none⟩/\w.cell? ⟨g,k*2,none⟩=some (Sb (gs.getD k o9).nm):=by
 rcases h.2 with⟨h1,h2⟩|⟨g,cp,cur,h1,hb,c,hnc,hcm,hcs,b⟩
 ·omega
 injection h1 with h1 _ _;refine⟨g,h1,?_⟩;have e:=qZ gs k hk;rw[<- b,ny,D8 O0]at e;rw[Lib.cell_of_heap c,<- e];simp
theorem a3l(ht:prog.underlying t=some (.slice e))(he:prog.elem t=e)(hz:∀u,(sizeOf e).run prog u=.ok size u)(h:w.ownsRow base e size v n xs){k:Nat}(hk:k<=n):∃v',(∀u,(Instr.slice t v none (some (Sc Se (k:Int))) none).run prog u=.ok v' u)/\∀u,(∀g,v.ownBlock=some g->u.heap[g]?=w.heap[g]?)->Src u v' size k (xs.take (k*size)):=by
 obtain⟨a,cap,hv⟩:=H9 h;have hc:n<=cap:=by
  rcases h.2 with⟨h1,h2⟩|⟨g,cp,cur,h1,hb,hg,hnc,_⟩
  ·omega
  rw[h1]at hv;injection hv with _ _ h3;omega
 subst hv;refine⟨vL (if cap=0 then a else a.map (·.add (0*size))) k cap,λu=>?_,λu b=>?_⟩
 ·rw[run_slice_h u t a n cap (by rw[he];exact ht) .i64 k O0 O0,he,hz];simp[sliced,Result.andThen]
 have:=aN h 0 k O0 cap cap a rfl O0 b;simpa using this
theorem a3I(ht:prog.underlying t=some (.slice e))(he:prog.elem t=e)(hz:∀u,(sizeOf e).run prog u=.ok size u)(h:w.ownsRow base e size v n xs){k:Nat}(hk:k<=n):∃v',(∀u,(Instr.slice t v (some (Sc Se (k:Int))) none none).run prog u=.ok v' u)/\∀u,(∀g,v.ownBlock=some g->u.heap[g]?=w.heap[g]?)->Src u v' size (n-k) (xs.drop (k*size)):=by
 obtain⟨a,cap,hv⟩:=H9 h;have hc:n<=cap:=by
  rcases h.2 with⟨h1,h2⟩|⟨g,cp,cur,h1,hb,hg,hnc,_⟩
  ·omega
  rw[h1]at hv;injection hv with _ _ h3;omega
 subst hv;refine⟨vL (if cap=k then a else a.map (·.add (k*size))) (n-k) (cap-k),λu=>?_,λu b=>?_⟩
 ·rw[run_slice_l u t a n cap (by rw[he];exact ht) .i64 k O0 O0,he,hz];simp[sliced,Result.andThen]
 have:=aN h k (n-k) O0 (cap-k) cap a rfl O0 b;rw[p_ (by simp[h.1,Nat.sub_mul])]at this;exact this
structure W9(w:World)(A:Value)(x:F2)(u:World):Prop where
 b:Bw w u
 h0:Cl u w.heap.size 40 [A]
 h1:Cl u (w.heap.size+1) 169 [Sb x.nm,Sb x.tx]
 h2:Cl u (w.heap.size+1+1) 40 [Sa none 0 0]
theorem W9.below{w:World}{A:Value}{x:F2}{u u':World}(h:W9 w A x u)(a:Bw u u'):W9 w A x u':=
 ⟨h.b.trans (a.mono h.b.size),h.h0.below a h.h0.lt,h.h1.below a h.h1.lt,h.h2.below a h.h2.lt⟩
def a1S(gs:List F2)(x:F2)(k:Nat):Prop:=∀j,j<k->lt (gs.getD j o9).nm x.nm=true
def Stop(gs:List F2)(x:F2)(k:Nat):Prop:=k<gs.length->lt (gs.getD k o9).nm x.nm=false
theorem XW{fs gs:List F2}{x:F2}{k:Nat}(ht:G_ fs)(hf:Qa x=true)(b:gs=fs.filter (nq x.nm))(hl:gs.length<40)(hk:k<=gs.length)(a:a1S gs x k)(hs:Stop gs x k):Wq fs x 0 (gs.take k++[x]++gs.drop k):=by
 have e:without fs x.nm=gs:=b.symm;refine .inr (.inr (.inr ⟨ht,hf,by rw[e];exact hl,rfl,k,?_,?_⟩))
 ·rw[e];refine⟨hk,a,?_⟩;rcases Z7 k gs.length with h|h
  ·exact .inr (hs h)
  exact .inl O0
 rw[e];unfold ins;simp
def a2r(w:World)(fs:List F2)(x:F2)(e:Ending)(w':World):Prop:=∃v c gs,e=.returned (.tuple #[.agg #[v],Sc Se c])/\w'.ownsRow w.heap.size 169 2 v gs.length (Dy gs)/\gs.length<=40/\(∀y∈gs,y∈fs\/y=x)/\Wq fs x c gs
theorem sF(gs:List F2):∀v∈Dy gs,v.oneCell'=true:=λv hv=>by
 obtain⟨x,_,h⟩:=Ox.1 hv;simp at h;rcases h with rfl|rfl<;>rfl
theorem UZ{w w':World}{b:Nat}{t:TypeId}{xs:List Value}{g:Nat}{n c:Nat}(h:Cl w b t xs)(d:w.grownBy w' (Sa (some ⟨g,0,none⟩) n c).ownBlock)(a:b≠g):Cl w' b t xs:=(d.block b h.lt (λe=>a (C_ e))).trans h
theorem a1l{w u:World}{x:F2}{fs:List F2}(g:u.cell? ⟨w.heap.size+1+1,0,none⟩=some (Sa none 0 0))(b:Bw w u)(c:Int)(hc:Wq fs x c [])(a:Array Value)(f:a[4]?=some (Sd (some ⟨w.heap.size+1+1,0,none⟩)))(d:a[5]?=some (Sc Se c)):bodyPost prog f153 (λe w'=>a2r w fs x e w'/\Bw w w') .ret ⟨a,[]⟩ u:=
 P7 (v:=.tuple #[.agg #[vN],vI c]) (by simp[results,results153,go_sem,g,f,d]) rfl ⟨⟨_,_,[],rfl,M_ _ _ _ _,J4,(λy h=>nomatch h),hc⟩,b⟩
theorem a4u(a:OA)(cap:Nat)(fs:List F2)(x:F2)(w:World)(hl:fs.length<=1000)(hs:∀i,(fs.getD i o9).le 4000)(hx:x.le 4000)(hat:P6 w a fs):
 Calls prog 153 #[.agg #[Sa a fs.length cap],.agg #[Sb x.nm,Sb x.tx]] w λe w'=>a2r w fs x e w'/\Bw w w':=by
 have HAT:=Dt hat;clear hat
 go_in
 go_wp2_with fail
 obtain⟨W,hW⟩:∃W:World,W=((w.alloc (Sg #[vL a fs.length cap] 40)).alloc (Sg #[vS x.nm,vS x.tx] 169)).alloc (Sg #[vN] 40):=⟨_,rfl⟩;rw[<- hW];have H:Hid (W9 w (vL a fs.length cap) x W):=by
  rw[hW];exact⟨(U6.alloc J4 _).alloc L8 _,E8 (E8 (I4 w [_] 40) _) _,E8 (Oh (xs:=[_,_]) J4) _,Oh (xs:=[_]) J4⟩
 clear hW;refine(a0y a cap fs W O0 (λi=>⟨X7 (hs i).1 O0,X7 (hs i).2 O0⟩) (J5 HAT.o H.o.b)).mono ?_;rintro e w1⟨⟨b,rfl,hbt⟩,hb1⟩;have L:=Dt (H.o.below hb1);have HTT:=Dt hbt.1;have HTN:=Dt hbt.2;clear H hbt hb1;have E:=L.o.h0.cell 0;have r:=L.o.h1.cell 0;have q:=L.o.h1.cell 1;have m:=L.o.h2.cell 0;have Q:=L.o.h2.opn 0;simp only[gz]at E r q m;cases b
 ·go_wp2;exact a1l (Jg _ _ _ m) (L.o.b.setCell (by show _<=w.heap.size+1+1;omega) _) 1 (.inl ⟨λh=>absurd (HTN.o h) U5,rfl,rfl⟩) _ rfl rfl
 have HTR:=Dt (HTT.o rfl);clear HTT
 go_wp2_with fail
 refine(jX x w1 ⟨X7 hx.1 O0,X7 hx.2 O0⟩).mono ?_;rintro e w2⟨rfl,hb2⟩;have s:=Dt (L.o.below hb2);clear L hb2 E r q m Q;have E:=s.o.h0.cell 0;have r:=s.o.h1.cell 0;have q:=s.o.h1.cell 1;have m:=s.o.h2.cell 0;have Q:=s.o.h2.opn 0;simp only[gz]at E r q m;cases hf:Qa x
 ·go_wp2;exact a1l (Jg _ _ _ m) (s.o.b.setCell (by show _<=w.heap.size+1+1;omega) _) 2 (.inr (.inl ⟨HTR.o,hf,rfl,rfl⟩)) _ rfl rfl
 go_wp2_with fail
 refine(a3e a cap fs x.nm w2 hl (J5 HAT.o s.o.b)).mono ?_;rintro e D⟨⟨v,gs,rfl,hr,hg,hsub,hfi⟩,hb3⟩;have HFI:=Dt hfi;have HFO:=Dt hf;have A:=Dt (s.o.below hb3);have J:=Dt hr;have a7X:=Dt hsub;have hz2:=s.o.b.size;have h2l:=s.o.h2.lt;clear s hb3 hr hsub hfi E r q m Q hf;obtain⟨va,O,rfl⟩:=H9 J.o;have E:=A.o.h0.cell 0;have r:=A.o.h1.cell 0;have q:=A.o.h1.cell 1;have m:=A.o.h2.cell 0;have Q:=A.o.h2.opn 0;simp only[gz]at E r q m;have hz3:=A.o.h2.lt;have hz1:=A.o.h1.lt;by_cases hbig:40<=gs.length
 ·go_wp2;exact a1l ((yj _ _ _ L8).trans (Jg _ _ _ m)) ((A.o.b.setCell (by show _<=w.heap.size+1+1;omega) _).alloc L8 _) 3 (.inr (.inr (.inl ⟨HTR.o,HFO.o,(by show 40<=(fs.filter (nq x.nm)).length;rw[<- HFI.o];exact hbig),rfl,rfl⟩))) _ rfl rfl
 obtain⟨w4,hw4⟩:∃u:World,u=D.alloc (Sg #[vL va gs.length O] 40):=⟨_,rfl⟩;have hb4:Bw D w4:=by rw[hw4];exact U6
 have R:Hid (Cl w4 D.heap.size 40 [vL va gs.length O]):=by show Cl _ _ _ _;rw[hw4];exact I4 D [_] 40
 have H4:=Dt (A.o.below hb4);have HR4:=Dt (ownsRow_below J.o hb4)
 go_wp2_with fail
 rw[<- hw4];clear hw4;have hz4:=R.o.lt;clear E r q m Q A J;go_loopw[7] (λi wr=>Hid (Below w4.heap.size w4 wr)/\∃k:Nat,i=Sc Se k/\k<=gs.length/\Hid (a1S gs x k)) (λi _=>gs.length-(RowKit.intOf i).toNat);exact⟨O4 _ _,0,rfl,Y4 _,λj h=>absurd h (U8 _)⟩;obtain⟨V,k,rfl,hk,HU⟩:=hrel;have H:=Dt (H4.o.below V.o);have R:=Dt (R.o.below V.o R.o.lt);have J:=Dt (ownsRow_below HR4.o V.o);clear H4 HR4;have hz1:=H.o.h2.lt;have hz4:=R.o.lt;have r:=H.o.h1.cell 0;have q:=H.o.h1.cell 1;have m:=H.o.h2.cell 0;have Q:=H.o.h2.opn 0;have d3:=R.o.cell 0;simp only[gz]at r q m d3;have HST:Hid (∀kk:Nat,kk<gs.length->∃g,va=some ⟨g,0,none⟩/\wr.cell? ⟨g,kk*2,none⟩=some (vS (gs.getD kk o9).nm)):=λkk hkk=>a0Q J.o hkk;have HOW:Hid (∀y,Bw wr y->∀g,(Sa va gs.length O).ownBlock=some g->y.heap[g]?=wr.heap[g]?):=λy d g e=>d.block g (J.o.lt g e).2;have p:Hid (∀y,Bw wr y->y.cell? ⟨D.heap.size,0,none⟩=some (vL va gs.length O)/\y.cell? ⟨w.heap.size+1,0,none⟩=some (vS x.nm)/\y.cell? ⟨w.heap.size+1,1,none⟩=some (vS x.tx)):=λy d=>⟨(d.cell hz4).trans d3,(d.cell (by show w.heap.size+1<_;omega)).trans r,(d.cell (by show w.heap.size+1<_;omega)).trans q⟩;have hcase:(∃g,k<gs.length/\va=some ⟨g,0,none⟩/\wr.cell? ⟨g,k*2,none⟩=some (vS (gs.getD k o9).nm))\/k=gs.length:=by
  rcases Z7 k gs.length with h|h
  ·obtain⟨g,h1,h2⟩:=HST.o k h;exact .inl ⟨g,h,h1,h2⟩
  exact .inr O0
 clear HST;have mark:=trivial;rcases hcase with⟨g,hlt,rfl,hgc⟩|hlt
 case' inl=>
  have HL1:Hid (Op.bytesLess (gs.getD k o9).nm.toList x.nm.toList=true->a1S gs x (k+1)):=λh j hj=>by
   rcases Z7 j k with h1|h1
   ·exact HU.o j h1
   obtain rfl:j=k:=O0;exact h
  have HL0:Hid (Op.bytesLess (gs.getD k o9).nm.toList x.nm.toList=false->Stop gs x k):=λh _=>h;generalize (gs.getD k o9).nm=nk at*
  go_wp2_with fail
  refine wp_region_held_drew (S:=λu=>u.cell? ⟨D.heap.size,0,none⟩=some (vL (some ⟨g,0,none⟩) gs.length O)/\u.cell? ⟨w.heap.size+1,0,none⟩=some (vS x.nm)/\u.cell? ⟨g,k*2,none⟩=some (vS nk)) Y0 ?_ λhH=>?_
  · ((try dsimp only);go_keep)
  iterate 16 refine sq ?_
  refine wdn ?_;clear hH hgc;go_simp;generalize (Op.bytesLess nk.toList x.nm.toList)=lb at*;cases lb;rotate_left
  ·have HU:=Dt (HL1.o rfl);clear HL1 HL0;go_wp2;go_roundw;exact⟨V.o.trans ((O4 _ _).drew.mono V.o.size),k+1,by go_num,O0,HU⟩;exact V9
  have HS:=Dt (HL0.o rfl);clear HL1 HL0
  go_wp2_with fail
  clear hlt;generalize (some (⟨g,0,none⟩:Addr))=va at*;revert mark
 case' inr=>
  have hnl:decide (k<gs.length)=false:=j_ O0;have HS:Hid (Stop gs x k):=λh=>absurd h O0;clear hlt
  go_wp2_with fail
  refine wp_region_held_drew (S:=λu=>u.cell? ⟨D.heap.size,0,none⟩=some (vL va gs.length O)) Y0 ?_ λhH=>?_
  · ((try dsimp only);go_keep)
  iterate 16 refine sq ?_
  refine wdn ?_
  go_wp2_with fail
  revert mark
 all_goals
  intro _;obtain⟨v47,hs1,SR1⟩:=a3l (t:=38) underlying38 Y0 (λu=>sizeOf169 u) J.o hk;obtain⟨v55,hs2,SR2⟩:=a3I (t:=38) underlying38 Y0 (λu=>sizeOf169 u) J.o hk;have S1:Hid (∀y,Bw wr y->Src y v47 2 k ((Dy gs).take (k*2))):=λy d=>SR1 y (HOW.o y d);have S2:Hid (∀y,Bw wr y->Src y v55 2 (gs.length-k) ((Dy gs).drop (k*2))):=λy d=>SR2 y (HOW.o y d);clear SR1 SR2;refine wp_region_held_drew (S:=λu=>u.cell? ⟨D.heap.size,0,none⟩=some (vL va gs.length O)/\u.cell? ⟨w.heap.size+1,0,none⟩=some (vS x.nm)/\u.cell? ⟨w.heap.size+1,1,none⟩=some (vS x.tx)) Y0 ?_ λhH=>?_
  ·exact p.o _ (O4 _ wr).drew.drew
  obtain⟨u,hu⟩:∃u:World,u=wr.drew.drew:=⟨_,rfl⟩;rw[<- hu]at hH ⊢;have Lu:Bw wr u:=by rw[hu];exact(O4 _ wr).drew.drew
  clear hu;refine tq 1 hH ?_;refine tq 2 hH ?_;refine y_ 3 ?_;refine tq 4 hH ?_;refine y_ 6 ?_;refine tq 9 hH ?_;refine tq 10 hH ?_;refine y_ 11 ?_;refine y_ 12 ?_;have a7q:=trivial;have row:Hid (∀y,Bw wr y->Bw wr (y.alloc (Sg #[] 169))/\(y.alloc (Sg #[] 169)).ownsRow wr.heap.size 169 2 (vL (some ⟨y.heap.size,0,none⟩) 0 0) 0 []):=λy d=>⟨d.alloc d.size _,row0 y 169 2 d.size⟩;refine wpAnyH_ready (rs:=[0,7]) Y0 J4 (AllReadyH.cons (o:=⟨some 43,.buildSlice 38 0 #[],38,_,_,none⟩) rfl (λK c=>?_) (AllReadyH.cons (o:=⟨some 50,.buildSlice 38 1 #[(0,.tmp 49)],38,_,_,none⟩) rfl (λK c=>?_) AllReadyH.nil));rotate_left;go_simp;obtain⟨f,C⟩:∃y:World,y=u.alloc (Sg #[vS x.nm,vS x.tx] 169):=⟨_,rfl⟩;rw[<- C];have by1:Bw u f:=by rw[C];exact U6
  have Cy1:Hid (Cl f u.heap.size 169 [vS x.nm,vS x.tx]):=by show Cl _ _ _ _;rw[C];exact I4 u _ 169
  have z:=E5 Lu by1;clear C hH;refine G9 c ?_ λhH=>?_
  ·exact p.o _ z
  clear c K;refine rq 0 λK c=>?_;go_simp;obtain⟨n,B⟩:∃y:World,y=f.alloc (Sg #[] 169):=⟨_,rfl⟩;rw[<- B];have X:Bw f n:=by rw[B];exact U6
  have U:=Dt (row.o f z).2;rw[<- B]at U;have l:=E5 z X;clear B hH;have N:=Dt (Cy1.o.below X Cy1.o.lt);refine G9 c ?_ λhH=>?_
  ·exact p.o _ l
  clear c K;refine rq 5 λK c=>?_;refine Ob rfl _ _ 38 rfl wr.heap.size 169 2 underlying38 Zx U5 _ 0 [] rfl U.o _ k _ rfl (S1.o n l) (λv hv=>sF gs v (IA hv)) O0 l.size ?_;intro v48 y3 F P _;have I:=Ib l P l.size (λj e=>(U.o.lt j e).1);have F:=Dt F;have N:=Dt (UZ N.o P (by have:=Cy1.o.lt;omega));clear P hH;refine G9 c ?_ λhH=>?_
  ·exact p.o _ I
  clear c K;generalize u.heap.size=B5 at N ⊢;revert a7q;rotate_left;go_simp;obtain⟨f,C⟩:∃y:World,y=u.alloc (Sg #[] 169):=⟨_,rfl⟩;rw[<- C];have by1:Bw u f:=by rw[C];exact U6
  have Ey1:=Dt (row.o u Lu).2;rw[<- C]at Ey1;have z:=E5 Lu by1;clear C hH;refine G9 c ?_ λhH=>?_
  ·exact p.o _ z
  clear c K;refine wpAnyH_ready (rs:=[5,7]) Y0 J4 (AllReadyH.cons (o:=⟨some 48,.call ⟨.builtin .append,#[.tmp 43,.tmp 47],#[38,38]⟩,38,_,_,none⟩) rfl (λK c=>?_) (AllReadyH.cons (o:=⟨some 50,.buildSlice 38 1 #[(0,.tmp 49)],38,_,_,none⟩) rfl (λK c=>?_) AllReadyH.nil));refine Ob rfl _ _ 38 rfl wr.heap.size 169 2 underlying38 Zx U5 _ 0 [] rfl Ey1.o _ k _ rfl (S1.o f z) (λv hv=>sF gs v (IA hv)) O0 z.size ?_;intro v48 n Ry2 gy2 _;have l:=Ib z gy2 z.size (λj e=>(Ey1.o.lt j e).1);have Ry2:=Dt Ry2;clear gy2 hH;refine G9 c ?_ λhH=>?_
  ·exact p.o _ l
  clear c K;refine rq 7 λK c=>?_;go_simp;obtain⟨y3,hy3⟩:∃y:World,y=n.alloc (Sg #[vS x.nm,vS x.tx] 169):=⟨_,rfl⟩;rw[<- hy3];have by3:Bw n y3:=by rw[hy3];exact U6
  have N:Hid (Cl y3 n.heap.size 169 [vS x.nm,vS x.tx]):=by show Cl _ _ _ _;rw[hy3];exact I4 n _ 169
  have I:=E5 l by3;clear hy3 hH;have F:=Dt (ownsRow_below Ry2.o by3);refine G9 c ?_ λhH=>?_
  ·exact p.o _ I
  clear c K;generalize n.heap.size=B5 at N ⊢;revert a7q;rotate_left;go_simp;obtain⟨n,B⟩:∃y:World,y=f.alloc (Sg #[vS x.nm,vS x.tx] 169):=⟨_,rfl⟩;rw[<- B];have X:Bw f n:=by rw[B];exact U6
  have Cy2:Hid (Cl n f.heap.size 169 [vS x.nm,vS x.tx]):=by show Cl _ _ _ _;rw[B];exact I4 f _ 169
  have l:=E5 z X;clear B hH;have U:=Dt (ownsRow_below Ey1.o X);refine G9 c ?_ λhH=>?_
  ·exact p.o _ l
  clear c K;refine rq 5 λK c=>?_;refine Ob rfl _ _ 38 rfl wr.heap.size 169 2 underlying38 Zx U5 _ 0 [] rfl U.o _ k _ rfl (S1.o n l) (λv hv=>sF gs v (IA hv)) O0 l.size ?_;intro v48 y3 F P _;have I:=Ib l P l.size (λj e=>(U.o.lt j e).1);have F:=Dt F;have N:=Dt (UZ Cy2.o P (by have:u.heap.size<f.heap.size:=(Ey1.o.lt _ rfl).2;omega));clear P hH;refine G9 c ?_ λhH=>?_
  ·exact p.o _ I
  clear c K;generalize f.heap.size=B5 at N ⊢;revert a7q
  all_goals
   intro _;refine rq 8 λK c=>?_;refine Ob rfl _ _ 38 rfl wr.heap.size 169 2 underlying38 Zx U5 _ (0+k) _ rfl F.o _ 1 [vS x.nm,vS x.tx] rfl (.inr ⟨⟨B5,0,none⟩,1,rfl,rfl,yh N.o⟩) (by simp[Value.oneCell']) O0 I.size ?_;intro v51 y4 Ry4 gy4 _;have Z:=Ib I gy4 I.size (λj e=>(F.o.lt j e).1);have Ry4:=Dt Ry4;clear gy4 hH;refine G9 c ?_ λhH=>?_
   ·exact p.o _ Z
   clear c K;refine rq 13 λK c=>?_;refine Ob rfl _ _ 38 rfl wr.heap.size 169 2 underlying38 Zx U5 _ (0+k+1) _ rfl Ry4.o _ (gs.length-k) _ rfl (S2.o y4 Z) (λv hv=>sF gs v (yJ hv)) O0 Z.size ?_;intro v56 y5 Y gy5 _;rw[show 0+k+1+(gs.length-k)=gs.length+1 from by omega,Y9]at Y;have Ly5:=Ib Z gy5 Z.size (λj e=>(Ry4.o.lt j e).1);obtain⟨va5,vc5,rfl⟩:=H9 Y;have Y:=Dt Y;clear gy5 hH;refine G9 c ?_ λhH=>?_
   ·exact p.o _ Ly5
   clear c K;refine sq ?_;refine rq 15 λK c=>?_;have C5:=H.o.h2.below Ly5 hz1;have e2:=C5.cell 0;have e3:=C5.opn 0;dsimp only[List.getElem?_cons_zero]at e2;obtain⟨s1,s2,s3⟩:=p.o y5 Ly5;go_simp;clear hH;refine G9 c ?_ λhH=>?_
   ·exact⟨(Nb _ _ _ _ (by simp<;>omega)).trans s1,(Nb _ _ _ _ J4).trans s2,(Nb _ _ _ _ J4).trans s3⟩
   clear c K;refine sq ?_;refine wdn ?_;clear hH;go_wp2;have er:=Jg y5 ⟨w.heap.size+1+1,0,none⟩ (vL va5 (gs.length+1) vc5) e2;refine P7 (v:=.tuple #[.agg #[vL va5 (gs.length+1) vc5],vO]) (by simp[results,results153,go_sem,er]) rfl ⟨⟨_,0,gs.take k++[x]++gs.drop k,rfl,?_,L8,(λy d=>?_),XW HTR.o HFO.o HFI.o O0 hk HU.o HS.o⟩,?_⟩
   ·have h:=Og (TF (b:=w.heap.size+1+1) (j:=0) (x:=vL va5 (gs.length+1) vc5) Y.o O0) (B':=w.heap.size) O0;have e1:(gs.take k++[x]++gs.drop k).length=gs.length+1:=L8;rw[e1,yL,yL,QS,jU];exact h
   ·simp only[Ph,Zj]at d;rcases d with(h|h)|h
    ·exact .inl (a7X.o y (IA h))
    ·exact .inr h
    exact .inl (a7X.o y (yJ h))
   exact(H.o.b.trans (Ly5.mono H.o.b.size)).setCell (by show w.heap.size<=w.heap.size+1+1;omega) _
