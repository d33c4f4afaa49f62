import Derived.Test.YtchjpjmcnhjbcaaGreatDooreEO
set_option maxHeartbeats 8000000
set_option maxRecDepth 100000
set_option linter.unusedVariables false
namespace Go.Proofs.YtchjpjmcnhjbcaaGreatDoor
open Proofs.Tryz Go.RowKit
theorem xE:Inf prog 9 1:=Ll Y2
theorem a0h:Inf prog 145 3:=Ll Y2
theorem a0f:Inf prog 205 3:=Ll Y2
variable {w u u':World} {base size n A k:Nat} {e t:TypeId} {v tv rv:Value} {xs vs:List Value}
theorem Nv {B:Nat} (h:B=w.heap.size):Cl (w.alloc (.cells xs.toArray t)) B t xs:=h▸Y4 w xs t
theorem I_ (h:w.ownsRow base e size v n xs):∃ a c,v=.slice a n c:=by
 rcases h.2 with ⟨rfl,rfl⟩ | ⟨g,cap,cur,rfl,_⟩
 · exact ⟨_,_,rfl⟩
 exact ⟨_,_,rfl⟩
theorem SI (h:w.ownsRow base e size v n xs) (a:v.ownBlock≠none):∃ g c,v=.slice (some ⟨g,0,none⟩) n c:=by
 rcases h.2 with ⟨rfl,rfl⟩ | ⟨g,cap,cur,rfl,_⟩
 · exact absurd rfl a
 exact ⟨_,_,rfl⟩
theorem Bg {B:Nat} (h:Below B w u) (g:u.grownBy u' v.ownBlock) (hz:B<=u.heap.size) (hv:∀ k,v.ownBlock=some k->B<=k):Below B w u':=
 ⟨g.os.trans h.os,g.tape.trans h.tape,g.output.trans h.output,G7 h.size g.size,fun k a=>(g.block k O0 (fun e=>by have:=hv k e.symm;omega)).trans (h.block k a)⟩
theorem row0 (w:World) (e:TypeId) (size:Nat) {B:Nat} (hB:B=w.heap.size) (a:base<=B):(w.alloc (.cells #[] e)).ownsRow base e size (.slice (some ⟨B,0,none⟩) 0 0) 0 []:=by
 subst hB;exact ⟨X4,.inr ⟨w.heap.size,0,#[],rfl,a,heap_alloc_new w _,v_ _,o6,X4,X4⟩⟩
theorem LJ (h:w.ownsRow base e size v n xs) (a:∀ g,v.ownBlock=some g->u.heap[g]?=w.heap[g]?):Src u v size n xs:=by
 have hl:=h.1;rcases h.2 with ⟨rfl,rfl⟩ | ⟨g,d,cur,rfl,hb,c,hnc,hcm,hcs,b⟩
 · exact .inl ⟨⟨_,rfl⟩,rfl,Va.1 (by rw [hl,Fq])⟩
 refine .inr ⟨⟨g,0,none⟩,d,rfl,hl,fun j x e=>?_⟩;rw [<- b,Zx] at e;split at e;rotate_left
 · cases e
 rw [Jq,Lib.cell_of_heap ((a g rfl).trans c)];simpa using e
theorem Nq (h:w.ownsRow base e size v n xs) {j:Nat} {x:Value} (hx:xs[j]?=some x):∃ g c,v=.slice (some ⟨g,0,none⟩) n c/\g<w.heap.size/\w.cell? ⟨g,j,none⟩=some x:=by
 have hl:=h.1;rcases h.2 with ⟨rfl,rfl⟩ | ⟨g,d,cur,rfl,hb,a,hnc,hcm,hcs,b⟩
 · rw [Va.1 (show xs.length=0 by rw [hl,Fq])] at hx;cases hx
 refine ⟨g,d,rfl,(r_.1 a).1,?_⟩;rw [<- b,Zx] at hx;split at hx;rotate_left
 · cases hx
 rw [Lib.cell_of_heap a];simpa using hx
theorem vY {rs:List R3} (h:Fg w base v rs vs) (f:k<rs.length):∃ g c a d,v=.slice (some ⟨g,0,none⟩) rs.length c/\g<w.heap.size/\vs.getD k undef=.slice a (rs.getD k f_).gs.length d/\w.cell? ⟨g,k*3,none⟩=some (.string (rs.getD k f_).key)/\w.cell? ⟨g,k*3+1,none⟩=some (.slice a (rs.getD k f_).gs.length d)/\w.cell? ⟨g,k*3+2,none⟩=some (.string (rs.getD k f_).out)/\w.ownsRow base 205 3 (.slice a (rs.getD k f_).gs.length d) (rs.getD k f_).gs.length (gC (rs.getD k f_).gs):=by
 obtain ⟨m,i,a2⟩:=UX rs vs k f;obtain ⟨a,d,hv,hr⟩:=h.gl k f;rw [hv] at i;obtain ⟨g,c,rfl,j,e0⟩:=Nq h.row m;obtain ⟨_,_,e,_,e1⟩:=Nq h.row i;obtain ⟨_,_,b,_,l⟩:=Nq h.row a2;injection e with e;injection e with e;injection e with e;injection b with b;injection b with b;injection b with b;subst e b;exact ⟨g,c,a,d,rfl,j,hv,e0,e1,l,hr⟩
structure C7 (w:World) (A:Nat) (s:St) (tv rv tv' v2:Value) (P:List R3) (vs:List Value) (u:World):Prop where
 b:Below w.heap.size w u
 h0:Cl u w.heap.size 43 [.int .i64 s.wd,tv,rv]
 h1:Cl u (w.heap.size+1) 43 [.int .i64 0,.slice none 0 0,.slice none 0 0]
 ha:Cl u A 43 [.int .i64 s.wd,tv',v2]
 hA:w.heap.size+2<=A
 ht:u.ownsRow (w.heap.size+2) 9 1 tv' s.ts.length (s.ts.map .string)
 hr:Fg u (w.heap.size+2) v2 P vs
theorem C7.below {s:St} {tv' v2:Value} {P:List R3} (h:C7 w A s tv rv tv' v2 P vs u) (a:Below u.heap.size u u'):C7 w A s tv rv tv' v2 P vs u':=
 ⟨h.b.trans (a.mono h.b.size),h.h0.below a h.h0.lt,h.h1.below a h.h1.lt,h.ha.below a h.ha.lt,h.hA,own_below h.ht a,h.hr.keep (fun q t hT _ _=>a.block q (Be hT))⟩
theorem Cb {B:Nat} (h:Cl w B t xs):ng w B t:=⟨_,_,h⟩
theorem C7.make {s:St} {tv':Value} {W y z:World} (f:Below w.heap.size w W) (h0:Cl W w.heap.size 43 [.int .i64 s.wd,tv,rv]) (h1:Cl W (w.heap.size+1) 43 [.int .i64 0,.slice none 0 0,.slice none 0 0]) (a:W.heap.size=w.heap.size+2) (d:Below W.heap.size W y) (hA:w.heap.size+2<=A) (ht:y.ownsRow (w.heap.size+2) 9 1 tv' s.ts.length (s.ts.map .string)) (ho:uy A y z) (hc:Cl y A 43 xs) (c:Cl z A 43 [.int .i64 s.wd,tv',.slice none 0 0]):C7 w A s tv rv tv' (.slice none 0 0) [] [] z:=
 have hB:Below (w.heap.size+2) W z:=(a▸d).trans (ho.below hA)
 ⟨f.trans (hB.mono O0),h0.below hB O0,h1.below hB O0,c,hA,o7 ht (fun q b=>ho.block q (fun e=>absurd (Y8 (Cb hc) (e▸N8 ht b)) o6)),⟨rfl,mg _ _ _ _,fun i h=>absurd h (J8 _),fun i j h=>absurd h (J8 _)⟩⟩
theorem C7.app {s:St} {tv' v2 d:Value} {P:List R3} {y:R3} {g Z c:World} {l:OA} {i:Nat} (h:C7 w A s tv rv tv' v2 P vs u) (D:Below u.heap.size u g) (m:g.ownsRow (u.heap.size+1) 205 3 (.slice l y.gs.length i) y.gs.length (gC y.gs)) (p:Below g.heap.size g Z) (z:c.ownsRow (w.heap.size+2) 145 3 d (P.length+1) (rC P vs++[.string y.key,.slice l y.gs.length i,.string y.out])) (x:Z.grownBy c v2.ownBlock):
 C7 w A s tv rv tv' d (P++[y]) (vs++[.slice l y.gs.length i]) (c.setCell ⟨A,2,none⟩ d)/\Cl c A 43 [.int .i64 s.wd,tv',v2]:=by
 have k:Below u.heap.size u Z:=X5 D p;have f:=h.below k;have hu:=h.b.size;have ha:=h.ha.lt;have hA:=h.hA;have C:=Bg (Z4 (w.heap.size+2) Z) x (by have:=k.size;omega) (fun j e=>J6 h.hr.row e);have kp:∀ q t,ng Z q t->t≠145->c.heap[q]?=Z.heap[q]?:=fun q t hT ht=>x.block q (Be hT) (fun e=>ht (Y8 hT (N8 f.hr.row e.symm)));have r:Cl c A 43 [.int .i64 s.wd,tv',v2]:=(kp A 43 (Cb f.ha) o6).trans f.ha;have o:=Ve c A 2 d;have v:Below (w.heap.size+2) Z (c.setCell ⟨A,2,none⟩ d):=C.trans (o.below hA);have n:∀ q t,ng Z q t->t≠145->t≠43->(c.setCell ⟨A,2,none⟩ d).heap[q]?=Z.heap[q]?:=fun q t hT h1 h2=>(o.block q (fun e=>h2 (Y8 (e▸hT) (Cb f.ha)))).trans (kp q t hT h1);refine ⟨⟨f.b.trans (v.mono O0),f.h0.below v O0,f.h1.below v O0,r.set 2 d,hA,o7 f.ht (fun q a=>n q 9 (N8 f.ht a) o6 o6),?_⟩,r⟩;have B:(c.setCell ⟨A,2,none⟩ d).ownsRow (w.heap.size+2) 145 3 d (P.length+1) (rC P vs++[.string y.key,.slice l y.gs.length i,.string y.out]):=o7 z (fun q a=>o.block q (fun e=>absurd (Y8 (Cb r) (e▸N8 z a)) o6));have r7:=o7 (own_below m p) (fun q a=>n q 205 (N8 (own_below m p) a) o6 o6);exact zF h.hr (H9 r7 O0) B (fun q a=>(n q 205 (a.below k (Be a)) o6 o6).trans (k.block q (Be a))) (fun q a=>by have:=J6 m a;omega)
theorem Ii (ts:LB):∀ v∈ts.map Value.string,v.oneCell'=true:=fun v hv=>by
 obtain ⟨x,_,rfl⟩:=Pm.1 hv;rfl
theorem own_ne {v:Value} {q n c k:Nat} (h:v.ownBlock=(Value.slice (some ⟨q,0,none⟩) n c).ownBlock\/v.ownBlock=some k):v.ownBlock≠none:=by
 rcases h with h | h <;> rw [h] <;> exact fun e=>nomatch e
theorem VN {X j:Nat} {y:Value} (h:w.ownsRow base e size v n xs) (hv:v.ownBlock≠some X):(w.setCell ⟨X,j,none⟩ y).ownsRow base e size v n xs:=o7 h (fun q a=>(Ve w X j y).block q (fun e=>hv (e▸a)))
theorem a3O {base':Nat} {rs:List R3} (h:Fg w base v rs vs) (a:base'<=base):Fg w base' v rs vs:=⟨h.len,H9 h.row a,fun i b=>(by obtain ⟨d,c3,e,c⟩:=h.gl i b;exact ⟨d,c3,e,H9 c a⟩),h.apart⟩
theorem sS {P rs:List R3} (h:P <+:rs) (hl:P.length<rs.length):P++[rs.getD P.length f_] <+:rs:=by
 obtain ⟨t,rfl⟩:=h
 cases t with
 | nil=>simp at hl
 | cons x r=>exact ⟨r,by simp [List.getD]⟩
theorem a1Q (s:St) (b0:Nat) (tv rv:Value) (w:World) (htl:s.ts.length<=1000) (hrl:s.rs.length<=1000) (hgl:∀ i,(s.rs.getD i f_).gs.length<=1000) (hst:Td w b0 s.ts s.rs tv rv):
 Calls prog 195 #[.agg #[.int .i64 s.wd,tv,rv]] w fun e w'=>(∃ g c ra rc,e=.returned (.agg #[.int .i64 s.wd,.slice (some ⟨g,0,none⟩) s.ts.length c,.slice ra s.rs.length rc])/\Td w' w.heap.size s.ts s.rs (.slice (some ⟨g,0,none⟩) s.ts.length c) (.slice ra s.rs.length rc))/\Below w.heap.size w w':=by
 have HST:=U0 hst;obtain ⟨ta,tc,rfl⟩:=I_ hst.1;obtain ⟨_,vs0,V⟩:=hst;obtain ⟨ra,rc,rfl⟩:=I_ V.row;clear V;have HGL:=U0 hgl;clear hgl;go_enter func195,ntmps195
 go_upto_region 1 with fail
 obtain ⟨W,O⟩:∃ W:World,W=(w.alloc (.cells #[.int .i64 s.wd,.slice ta s.ts.length tc,.slice ra s.rs.length rc] 43)).alloc (.cells #[.int .i64 0,.slice none 0 0,.slice none 0 0] 43):=⟨_,rfl⟩;rw [<- O];have bW:Below w.heap.size w W:=by rw [O];exact P6.alloc X4 _
 have H0:Hid (Cl W w.heap.size 43 [.int .i64 s.wd,.slice ta s.ts.length tc,.slice ra s.rs.length rc]):=by show Cl _ _ _ _;rw [O];exact G9 (Y4 w [_,_,_] 43) _
 have H1:Hid (Cl W (w.heap.size+1) 43 [.int .i64 0,.slice none 0 0,.slice none 0 0]):=by show Cl _ _ _ _;rw [O];exact Nv (xs:=[_,_,_]) X4
 have D:Hid (W.heap.size=w.heap.size+2):=by show _=_;rw [O];simp
 have n:Hid (∀ y,Below W.heap.size W y->y.cell? ⟨w.heap.size,0,none⟩=some (.int .i64 s.wd)/\y.cell? ⟨w.heap.size,1,none⟩=some (.slice ta s.ts.length tc)):=fun y d=>have h:=H0.out.below d H0.out.lt;⟨h.cell 0,h.cell 1⟩
 have HR:Hid (∀ y,Below W.heap.size W y->Src y (.slice ta s.ts.length tc) 1 s.ts.length (s.ts.map .string)):=fun y d=>LJ HST.out.1 (fun g hg=>(X5 bW d).block g (Xe HST.out.1 hg));clear O
 go_cut [3] from 3 (fun s3 wx=>∃ A g c,s3=.pointer (some ⟨A,0,none⟩)/\Hid (C7 w A s (.slice ta s.ts.length tc) (.slice ra s.rs.length rc) (.slice (some ⟨g,0,none⟩) s.ts.length c) (.slice none 0 0) [] [] wx))
 case first=>
  have hbd:Below W.heap.size W W.drew:=(Z4 _ _).drew;have HM:Hid (∀ (A:Nat) (tv':Value) (y z:World),Below W.heap.size W y->w.heap.size+2<=A->y.ownsRow (w.heap.size+2) 9 1 tv' s.ts.length (s.ts.map .string)->uy A y z->Cl y A 43 [.int .i64 0,.slice none 0 0,.slice none 0 0]->Cl z A 43 [.int .i64 s.wd,tv',.slice none 0 0]->C7 w A s (.slice ta s.ts.length tc) (.slice ra s.rs.length rc) tv' (.slice none 0 0) [] [] z):=fun A tv' y z h1 h2 h3 h4 h5 J=>C7.make bW H0.out H1.out D.out h1 h2 h3 h4 h5 J;refine wp_region_held_drew (S:=fun u=>u.cell? ⟨w.heap.size,0,none⟩=some (.int .i64 s.wd)/\u.cell? ⟨w.heap.size,1,none⟩=some (.slice ta s.ts.length tc)) Y2 (n.out _ hbd) fun hH=>?_;refine tq 0 hH ?_;refine tq 1 hH ?_;refine tq 3 hH ?_;refine Y0 4 ?_;have hz2:w.heap.size+2<=W.heap.size:=qj D.out.symm;refine wpAnyH_ready (rs:=[2,7]) Y2 X4 (AllReadyH.cons (o:=⟨some 8,.buildSlice 22 0 #[],22,_,_,none⟩) rfl (fun K a=>?_) (AllReadyH.cons (o:=⟨some 3,.alloc 43,0,_,_,none⟩) rfl (fun K a=>?_) AllReadyH.nil))
  · go_simp;obtain ⟨y,d⟩:∃ q:World,q=(W.alloc (.cells #[] 9)).drew:=⟨_,rfl⟩;rw [<- d];have k:Below W.heap.size W y:=by rw [d];exact P6.drew
    have R1:Hid (y.ownsRow (w.heap.size+2) 9 1 (.slice (some ⟨W.heap.size,0,none⟩) 0 0) 0 []):=by show World.ownsRow _ _ _ _ _ _ _;rw [d];exact row0 W 9 1 rfl hz2
    clear d;refine E8 a (n.out _ k) fun hH=>?_;clear a K;refine wpAnyH_ready (rs:=[5,7]) Y2 X4 (AllReadyH.cons (o:=⟨some 11,.call ⟨.builtin .append,#[.tmp 8,.tmp 10],#[22,22]⟩,22,_,_,none⟩) rfl (fun K a=>?_) (AllReadyH.cons (o:=⟨some 3,.alloc 43,0,_,_,none⟩) rfl (fun K a=>?_) AllReadyH.nil))
    · refine Aa rfl _ _ 22 rfl (w.heap.size+2) 9 1 underlying22 xE o6 (.slice (some ⟨W.heap.size,0,none⟩) 0 0) 0 [] rfl R1.out _ s.ts.length (s.ts.map .string) rfl (HR.out _ k) (Ii _) O0 (by have:=k.size;omega) ?_;intro v C l r F;rw [L8,Ua] at l;obtain ⟨g,c,rfl⟩:=SI l (own_ne F);have bg:=Bg (Z4 (w.heap.size+2) _) r (by have:=k.size;omega) (fun j e=>J6 R1.out e);have f:Below W.heap.size W C:=k.trans (D.out.symm▸bg);have OV:=U0 l;have gq:=r;clear l r F;refine E8 a (n.out _ f) fun hH=>?_;clear a K;refine Y0 6 ?_;refine rq 7 fun K a=>?_;go_simp;obtain ⟨y3,d⟩:∃ q:World,q=C.alloc (.cells #[.int .i64 0,.slice none 0 0,.slice none 0 0] 43):=⟨_,rfl⟩;have b3:Below W.heap.size W y3:=by rw [d];exact f.alloc f.size _
      have m:Hid (Cl y3 C.heap.size 43 [.int .i64 0,.slice none 0 0,.slice none 0 0]):=by show Cl _ _ _ _;rw [d];exact Y4 _ [_,_,_] 43
      rw [<- d];have O3:=U0 (own_below OV.out (u':=y3) (by rw [d];exact P6));clear d;refine E8 a (n.out _ b3) fun hH=>?_;clear a K;refine rq 8 fun K a=>?_;refine t_ rfl 43 _ _ rfl (B:=C.heap.size) (j:=0) rfl (vs:=[.int .i64 s.wd,.slice (some ⟨g,0,none⟩) s.ts.length c,.slice none 0 0]) rfl m.out H8 (by simp [Value.oneCell']) Y2 ?_;intro z L p;have U:=U0 (HM.out _ _ _ _ b3 (by have:=f.size;omega) O3.out p m.out L);refine E8 a (n.out _ (b3.trans (p.below (by have:=k.size;have:=f.size;omega)))) fun hH=>?_;clear a K;refine wdn ?_
      go_wp2_with fail
      go_meet
      case rel=>exact ⟨_,_,_,rfl,U⟩
    go_simp;obtain ⟨I,d⟩:∃ q:World,q=y.alloc (.cells #[.int .i64 0,.slice none 0 0,.slice none 0 0] 43):=⟨_,rfl⟩;have x:Below W.heap.size W I:=by rw [d];exact k.alloc k.size _
    have m:Hid (Cl I y.heap.size 43 [.int .i64 0,.slice none 0 0,.slice none 0 0]):=by show Cl _ _ _ _;rw [d];exact Y4 _ [_,_,_] 43
    rw [<- d];have N:=U0 (own_below R1.out (u':=I) (by rw [d];exact P6));clear d;refine E8 a (n.out _ x) fun hH=>?_;clear a K;refine rq 5 fun K a=>?_;refine Aa rfl _ _ 22 rfl (w.heap.size+2) 9 1 underlying22 xE o6 (.slice (some ⟨W.heap.size,0,none⟩) 0 0) 0 [] rfl N.out _ s.ts.length (s.ts.map .string) rfl (HR.out _ x) (Ii _) O0 (by have:=x.size;omega) ?_;intro v C l r F;rw [L8,Ua] at l;obtain ⟨g,c,rfl⟩:=SI l (own_ne F);have bg:=Bg (Z4 (w.heap.size+2) _) r (by have:=x.size;omega) (fun j e=>J6 N.out e);have f:Below W.heap.size W C:=x.trans (D.out.symm▸bg);have OV:=U0 l;have gq:=r;clear l r F;refine E8 a (n.out _ f) fun hH=>?_;clear a K;refine Y0 6 ?_;have CV:Hid (Cl C y.heap.size 43 [.int .i64 0,.slice none 0 0,.slice none 0 0]):=(gq.block _ m.out.lt (fun e=>absurd (Y8 (Cb m.out) (N8 N.out e.symm)) o6)).trans m.out;refine rq 8 fun K a=>?_;refine t_ rfl 43 _ _ rfl (B:=y.heap.size) (j:=0) rfl (vs:=[.int .i64 s.wd,.slice (some ⟨g,0,none⟩) s.ts.length c,.slice none 0 0]) rfl CV.out H8 (by simp [Value.oneCell']) Y2 ?_;intro z L p;have U:=U0 (HM.out _ _ _ _ f (by have:=k.size;omega) OV.out p CV.out L);refine E8 a (n.out _ (f.trans (p.below (by have:=k.size;have:=f.size;omega)))) fun hH=>?_;clear a K;refine wdn ?_
    go_wp2_with fail
    go_meet
    case rel=>exact ⟨_,_,_,rfl,U⟩
  go_simp;obtain ⟨y,d⟩:∃ q:World,q=(W.alloc (.cells #[.int .i64 0,.slice none 0 0,.slice none 0 0] 43)).drew:=⟨_,rfl⟩;have k:Below W.heap.size W y:=by rw [d];exact P6.drew
  have m:Hid (Cl y W.heap.size 43 [.int .i64 0,.slice none 0 0,.slice none 0 0]):=by show Cl _ _ _ _;rw [d];exact Y4 _ [_,_,_] 43
  rw [<- d];have hys:W.heap.size<y.heap.size:=m.out.lt;clear d;refine E8 a (n.out _ k) fun hH=>?_;clear a K;refine rq 2 fun K a=>?_;go_simp;obtain ⟨I,d⟩:∃ q:World,q=y.alloc (.cells #[] 9):=⟨_,rfl⟩;rw [<- d];have hbb:Below y.heap.size y I:=by rw [d];exact P6
  have x:Below W.heap.size W I:=X5 k hbb;have N:Hid (I.ownsRow (w.heap.size+2) 9 1 (.slice (some ⟨y.heap.size,0,none⟩) 0 0) 0 []):=by show World.ownsRow _ _ _ _ _ _ _;rw [d];exact row0 y 9 1 rfl O0
  have m:=U0 (m.out.below hbb m.out.lt);clear d;refine E8 a (n.out _ x) fun hH=>?_;clear a K;refine rq 5 fun K a=>?_;refine Aa rfl _ _ 22 rfl (w.heap.size+2) 9 1 underlying22 xE o6 (.slice (some ⟨y.heap.size,0,none⟩) 0 0) 0 [] rfl N.out _ s.ts.length (s.ts.map .string) rfl (HR.out _ x) (Ii _) O0 (by have:=x.size;omega) ?_;intro v C l r F;rw [L8,Ua] at l;obtain ⟨g,c,rfl⟩:=SI l (own_ne F);have bg:=Bg (Z4 (w.heap.size+2) _) r (by have:=x.size;omega) (fun j e=>J6 N.out e);have f:Below W.heap.size W C:=x.trans (D.out.symm▸bg);have OV:=U0 l;have gq:=r;clear l r F;refine E8 a (n.out _ f) fun hH=>?_;clear a K;refine Y0 6 ?_;have CV:Hid (Cl C W.heap.size 43 [.int .i64 0,.slice none 0 0,.slice none 0 0]):=(gq.block _ m.out.lt (fun e=>absurd (Y8 (Cb m.out) (N8 N.out e.symm)) o6)).trans m.out;refine rq 8 fun K a=>?_;refine t_ rfl 43 _ _ rfl (B:=W.heap.size) (j:=0) rfl (vs:=[.int .i64 s.wd,.slice (some ⟨g,0,none⟩) s.ts.length c,.slice none 0 0]) rfl CV.out H8 (by simp [Value.oneCell']) Y2 ?_;intro z L p;have U:=U0 (HM.out _ _ _ _ f hz2 OV.out p CV.out L);refine E8 a (n.out _ (f.trans (p.below (by have:=k.size;have:=f.size;omega)))) fun hH=>?_;clear a K;refine wdn ?_
  go_wp2_with fail
  go_meet
  case rel=>exact ⟨_,_,_,rfl,U⟩
 obtain ⟨A,g,c,rfl,HC⟩:=hcut;clear n HR H0 H1 D bW
 go_wp2_with fail
 go_loopw [4] (fun i wr=>∃ (P:List R3) (v2:Value) (vs:List Value),i=.int .i64 P.length/\P.length<=s.rs.length/\Hid (P <+:s.rs)/\Hid (C7 w A s (.slice ta s.ts.length tc) (.slice ra s.rs.length rc) (.slice (some ⟨g,0,none⟩) s.ts.length c) v2 P vs wr)) (fun i _=>s.rs.length - (RowKit.intOf i).toNat)
 case atStart=>exact ⟨[],_,_,rfl,J4 _,List.nil_prefix,HC⟩
 obtain ⟨P,v2,vs,rfl,hk,hP,H⟩:=hrel;obtain ⟨a2,c2,rfl⟩:=I_ H.out.hr.row;have d0:=H.out.h0.cell 2;have k0:=H.out.ha.cell 0;have k1:=H.out.ha.cell 1;have k2:=H.out.ha.cell 2;simp only [@gz Value] at d0 k0 k1 k2;by_cases hlt:P.length<s.rs.length;rotate_left
 · have hPe:P=s.rs:=List.IsPrefix.eq_of_length hP.out O0;subst hPe
   go_wp2_with (refine y9 rfl 43 _ _ rfl (B:=w.heap.size+1) (j:=0) rfl (vs:=[.int .i64 s.wd,.slice (some ⟨g,0,none⟩) s.ts.length c,.slice a2 s.rs.length c2]) rfl H.out.h1 H8 (by simp [Value.oneCell']) Y2 ?_;intro z L p)
   have kz:∀ q t,ng wr q t->t≠43->z.heap[q]?=wr.heap[q]?:=fun q t hT h=>p.block q (fun e=>h (Y8 (e▸hT) (Cb H.out.h1)));exact Y6 (v:=.agg #[.int .i64 s.wd,.slice (some ⟨g,0,none⟩) s.ts.length c,.slice a2 s.rs.length c2]) (Q8 (P:=prog) (ty:=43) rfl _ z (w.heap.size+1) [.int .i64 s.wd,.slice (some ⟨g,0,none⟩) s.ts.length c,.slice a2 s.rs.length c2] _ rfl L.blk underlying43 rfl Y2) rfl ⟨⟨_,_,_,_,rfl,H9 (o7 H.out.ht (fun q hq=>kz q 9 (N8 H.out.ht hq) o6)) O0,vs,a3O (H.out.hr.keep (fun q t hT ht _=>kz q t hT (by rcases ht with rfl | rfl <;> decide))) O0⟩,H.out.b.trans (p.below O0)⟩
 obtain ⟨_,vs0,V⟩:=dw HST.out H.out.b;obtain ⟨g5,c56,ga,gd,hrv,hg5,_,e0,e1,e2,hgr⟩:=vY V hlt;obtain ⟨rfl,rfl⟩:ra=some ⟨g5,0,none⟩/\rc=c56:=by injection hrv with h1 _ h3;exact ⟨h1,h3⟩
 have hn:=HGL.out P.length;have HPY:=U0 (sS hP.out hlt);generalize s.rs.getD P.length f_=y at*;have HGR:=U0 hgr;clear V hgr hrv hP;obtain ⟨Y,X⟩:∃ Y:World,Y=(wr.alloc (.cells #[.string y.key,.slice ga y.gs.length gd,.string y.out] 145)).alloc (.cells #[] 205):=⟨_,rfl⟩;have bY:Below wr.heap.size wr Y:=by rw [X];exact P6.alloc X4 _
 have CX:Hid (Cl Y wr.heap.size 145 [.string y.key,.slice ga y.gs.length gd,.string y.out]):=by show Cl _ _ _ _;rw [X];exact G9 (Y4 wr [_,_,_] 145) _
 have RX:Hid (Y.ownsRow (wr.heap.size+1) 205 3 (.slice (some ⟨wr.heap.size+1,0,none⟩) 0 0) 0 []):=by show World.ownsRow _ _ _ _ _ _ _;rw [X];exact row0 _ 205 3 X4 H8
 have SX:=U0 (LJ HGR.out (u:=Y) (fun q hq=>bY.block q (Xe HGR.out hq)));have hYs:=CX.out.lt
 go_upto_region 7 with (at_builtin;rw [<- X];refine Xq rfl _ _ 143 rfl (wr.heap.size+1) 205 3 underlying143 a0f o6 (.slice (some ⟨wr.heap.size+1,0,none⟩) 0 0) 0 [] rfl RX.out _ y.gs.length (gC y.gs) rfl SX.out (pO y.gs) O0 O0 ?_;intro v5 y5 O5 gw _;rw [L8,Ua] at O5;obtain ⟨R,Q,rfl⟩:=I_ O5;have b5:=Bg (Z4 (wr.heap.size+1) Y) gw O0 (fun j e=>J6 RX.out e);have C5:=CX.out.below b5 O0;have n1:=C5.cell 1;have nf:=C5.opn 1;simp only [@gz Value] at n1;clear gw)
 obtain ⟨E,J⟩:∃ q:World,q=y5.setCell ⟨wr.heap.size,1,none⟩ (.slice R y.gs.length Q):=⟨_,rfl⟩;rw [<- J];have b6:Below wr.heap.size wr E:=by rw [J];exact (bY.trans (b5.mono O0)).setCell H8 _
 have C6:Hid (Cl E wr.heap.size 145 [.string y.key,.slice R y.gs.length Q,.string y.out]):=by show Cl _ _ _ _;rw [J];exact C5.set 1 _
 have R6:Hid (E.ownsRow (wr.heap.size+1) 205 3 (.slice R y.gs.length Q) y.gs.length (gC y.gs)):=by show World.ownsRow _ _ _ _ _ _ _;rw [J];exact VN O5 (fun e=>by have:=J6 O5 e;omega)
 have H6:=U0 (H.out.below b6);clear J n1 nf C5 O5 b5 SX RX CX hYs bY X d0 k0 k1 k2 e0 e1 e2;have k2:=H6.out.ha.cell 2;have x0:=C6.out.cell 0;have x1:=C6.out.cell 1;have x2:=C6.out.cell 2;simp only [@gz Value] at k2 x0 x1 x2;obtain ⟨Z,hZ⟩:∃ q:World,q=E.alloc (.cells #[.string y.key,.slice R y.gs.length Q,.string y.out] 145):=⟨_,rfl⟩;have bZ:Below E.heap.size E Z:=by rw [hZ];exact P6
 have CZ:Hid (Cl Z E.heap.size 145 [.string y.key,.slice R y.gs.length Q,.string y.out]):=by show Cl _ _ _ _;rw [hZ];exact Y4 _ [_,_,_] 145
 have D:=U0 (H6.out.below bZ);have hb0:w.heap.size+2<=Z.heap.size:=by have:=D.out.ha.lt;have:=D.out.hA;omega
 go_wp2_with (at_builtin;rw [<- hZ];refine Xq rfl _ _ 41 rfl (w.heap.size+2) 145 3 underlying41 a0h o6 (.slice a2 P.length c2) P.length (rC P vs) rfl D.out.hr.row _ 1 [.string y.key,.slice R y.gs.length Q,.string y.out] rfl (.inr ⟨⟨E.heap.size,0,none⟩,1,rfl,rfl,um CZ.out⟩) (by simp [Value.oneCell']) O0 hb0 ?_;intro v7 y7 O7 g7 _;obtain ⟨a7,c70,rfl⟩:=I_ O7;obtain ⟨hN,hN2⟩:=H.out.app b6 R6.out bZ O7 g7;have m1:=hN2.cell 2;have m2:=hN2.opn 2;simp only [@gz Value] at m1;have HN:=U0 hN;clear O7 g7 hN hN2)
 go_roundw
 case rel=>exact ⟨P++[y],_,_,by rw [D9];go_num,by rw [D9];simp;omega,HPY,HN⟩
 case measure=>simp [RowKit.intOf];omega
