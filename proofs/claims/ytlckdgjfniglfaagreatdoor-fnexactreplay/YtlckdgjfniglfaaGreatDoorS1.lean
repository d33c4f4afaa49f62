import Derived.Test.YtlckdgjfniglfaaGreatDoorMD
import Derived.Test.YtlckdgjfniglfaaGreatDooreEH
import Derived.Test.YtlckdgjfniglfaaGreatDoortW4
import Derived.Deep.Cut
import Derived.Deep.CutRange
set_option linter.unusedVariables false
set_option linter.unusedSimpArgs false
set_option maxRecDepth 100000
set_option maxHeartbeats 8000000
namespace Go.Proofs.YtlckdgjfniglfaaGreatDoor
open Go.RowKit Go.Maps
theorem stOwn_keep {W W':World} {base:Nat} {ts:List ByteArray} {rs:List R3} {tv rv:Value} (h:StOwn W base ts rs tv rv) (hk:∀ q t,OfT W q t->t=9\/t=96\/t=119->W'.heap[q]?=W.heap[q]?):StOwn W' base ts rs tv rv:=by
 obtain ⟨h1,vs,h2⟩:=h;exact ⟨own_keep' h1 (fun q hq=>hk q 9 (own_ofT h1 hq) (.inl rfl)),vs,h2.keep (fun q t hT ht _=>hk q t hT (.inr ht))⟩
theorem stOwn_below {W W':World} {base:Nat} {ts:List ByteArray} {rs:List R3} {tv rv:Value} (h:StOwn W base ts rs tv rv) (hb:Below W.heap.size W W'):StOwn W' base ts rs tv rv:=
 stOwn_keep h (fun q t hT _=>hb.block q (ofT_lt hT))
theorem stOwn_low {W:World} {base base':Nat} {ts:List ByteArray} {rs:List R3} {tv rv:Value} (h:StOwn W base ts rs tv rv) (hb:base'<=base):StOwn W base' ts rs tv rv:=by
 obtain ⟨h1,vs,h⟩:=h;exact ⟨own_low h1 hb,vs,h.len,own_low h.row hb,fun i hi=>by
  obtain ⟨a3,c3,e,h3⟩:=h.gl i hi;exact ⟨a3,c3,e,own_low h3 hb⟩,h.apart⟩
open Proofs.Tryz
open Go.RowKit
theorem ta70_70 (v:Value) (w:World):(Instr.typeAssert (.iface 103 v) 57 103 true).run prog w=.ok (.tuple #[v,.bool true]) w:=kr_
theorem ta71_70 (v:Value) (w:World):(Instr.typeAssert (.iface 104 v) 57 103 true).run prog w=.ok (.tuple #[.int .i64 0,.bool false]) w:=kr_
theorem ta71_71 (v:Value) (w:World):(Instr.typeAssert (.iface 104 v) 57 104 true).run prog w=.ok (.tuple #[v,.bool true]) w:=kr_
theorem ta72_70 (v:Value) (w:World):(Instr.typeAssert (.iface 105 v) 57 103 true).run prog w=.ok (.tuple #[.int .i64 0,.bool false]) w:=kr_
theorem ta72_71 (v:Value) (w:World):(Instr.typeAssert (.iface 105 v) 57 104 true).run prog w=.ok (.tuple #[.agg #[.string ⟨#[]⟩,.string ⟨#[]⟩],.bool false]) w:=kr_
theorem ta72_72 (v:Value) (w:World):(Instr.typeAssert (.iface 105 v) 57 105 true).run prog w=.ok (.tuple #[v,.bool true]) w:=kr_
theorem ta74_70 (v:Value) (w:World):(Instr.typeAssert (.iface 107 v) 57 103 true).run prog w=.ok (.tuple #[.int .i64 0,.bool false]) w:=kr_
theorem ta74_71 (v:Value) (w:World):(Instr.typeAssert (.iface 107 v) 57 104 true).run prog w=.ok (.tuple #[.agg #[.string ⟨#[]⟩,.string ⟨#[]⟩],.bool false]) w:=kr_
theorem ta74_72 (v:Value) (w:World):(Instr.typeAssert (.iface 107 v) 57 105 true).run prog w=.ok (.tuple #[.string ⟨#[]⟩,.bool false]) w:=kr_
theorem ta74_74 (v:Value) (w:World):(Instr.typeAssert (.iface 107 v) 57 107 true).run prog w=.ok (.tuple #[v,.bool true]) w:=kr_
theorem ta76_70 (v:Value) (w:World):(Instr.typeAssert (.iface 110 v) 57 103 true).run prog w=.ok (.tuple #[.int .i64 0,.bool false]) w:=kr_
theorem ta76_71 (v:Value) (w:World):(Instr.typeAssert (.iface 110 v) 57 104 true).run prog w=.ok (.tuple #[.agg #[.string ⟨#[]⟩,.string ⟨#[]⟩],.bool false]) w:=kr_
theorem ta76_72 (v:Value) (w:World):(Instr.typeAssert (.iface 110 v) 57 105 true).run prog w=.ok (.tuple #[.string ⟨#[]⟩,.bool false]) w:=kr_
theorem ta76_74 (v:Value) (w:World):(Instr.typeAssert (.iface 110 v) 57 107 true).run prog w=.ok (.tuple #[.agg #[.string ⟨#[]⟩,.string ⟨#[]⟩,.string ⟨#[]⟩,.slice none 0 0,.int .i64 0,.string ⟨#[]⟩],.bool false]) w:=kr_
theorem ta76_76 (v:Value) (w:World):(Instr.typeAssert (.iface 110 v) 57 110 true).run prog w=.ok (.tuple #[v,.bool true]) w:=kr_
def zE:List Value:=[.int .i64 0,.int .i64 0,.string ⟨#[]⟩,.string ⟨#[]⟩,.string ⟨#[]⟩,.string ⟨#[]⟩,.string ⟨#[]⟩,.slice none 0 0,.int .i64 0,.string ⟨#[]⟩]
theorem n10z_le:n10z.le 1048576:=⟨Nat.zero_le _,Nat.zero_le _,⟨Nat.zero_le _,Nat.zero_le _,Nat.zero_le _⟩,⟨Nat.zero_le _,fun _=>⟨Nat.zero_le _,Nat.zero_le _⟩⟩,Nat.zero_le _⟩
theorem inf9:Inf prog 9 1:=inf_of kr_
theorem inf96:Inf prog 96 3:=inf_of kr_
theorem inf119:Inf prog 119 3:=inf_of kr_
variable {w u u':World} {base size n A k:Nat} {e t:TypeId} {v tv rv:Value} {xs vs:List Value}
theorem cl_at {B:Nat} (h:B=w.heap.size):Cl (w.alloc (.cells xs.toArray t)) B t xs:=h▸cl_new w xs t
theorem row_sl (h:w.ownsRow base e size v n xs):∃ a c,v=.slice a n c:=by
 rcases h.2 with ⟨rfl,rfl⟩ | ⟨g,cap,cur,rfl,_⟩
 · exact ⟨_,_,rfl⟩
 exact ⟨_,_,rfl⟩
theorem row_sm (h:w.ownsRow base e size v n xs) (hn:v.ownBlock≠none):∃ g c,v=.slice (some ⟨g,0,none⟩) n c:=by
 rcases h.2 with ⟨rfl,rfl⟩ | ⟨g,cap,cur,rfl,_⟩
 · exact absurd rfl hn
 exact ⟨_,_,rfl⟩
theorem gr_bW {B:Nat} (h:Below B w u) (g:u.grownBy u' v.ownBlock) (hz:B<=u.heap.size) (hv:∀ k,v.ownBlock=some k->B<=k):Below B w u':=
 ⟨g.os.trans h.os,g.tape.trans h.tape,g.output.trans h.output,Nat.le_trans h.size g.size,fun k hk=>(g.block k om_ (fun e=>by have:=hv k e.symm;omega)).trans (h.block k hk)⟩
theorem row0 (w:World) (e:TypeId) (size:Nat) {B:Nat} (hB:B=w.heap.size) (hb:base<=B):(w.alloc (.cells #[] e)).ownsRow base e size (.slice (some ⟨B,0,none⟩) 0 0) 0 []:=by
 subst hB;exact ⟨sm_,.inr ⟨w.heap.size,0,#[],rfl,hb,heap_alloc_new w _,Nat.le_refl _,dc_,sm_,sm_⟩⟩
theorem row_src (h:w.ownsRow base e size v n xs) (hu:∀ g,v.ownBlock=some g->u.heap[g]?=w.heap[g]?):Src u v size n xs:=by
 have hl:=h.1;rcases h.2 with ⟨rfl,rfl⟩ | ⟨g,cap,cur,rfl,hb,hg,hnc,hcm,hcs,htk⟩
 · exact .inl ⟨⟨_,rfl⟩,rfl,List.length_eq_zero_iff.1 (by rw [hl,Nat.zero_mul])⟩
 refine .inr ⟨⟨g,0,none⟩,cap,rfl,hl,fun j x e=>?_⟩;rw [<- htk,List.getElem?_take] at e;split at e;rotate_left
 · cases e
 rw [Addr.add_lit,Lib.cell_of_heap ((hu g rfl).trans hg)];simpa using e
theorem row_at (h:w.ownsRow base e size v n xs) {j:Nat} {x:Value} (hx:xs[j]?=some x):∃ g c,v=.slice (some ⟨g,0,none⟩) n c/\g<w.heap.size/\w.cell? ⟨g,j,none⟩=some x:=by
 have hl:=h.1;rcases h.2 with ⟨rfl,rfl⟩ | ⟨g,cap,cur,rfl,hb,hg,hnc,hcm,hcs,htk⟩
 · rw [List.length_eq_zero_iff.1 (show xs.length=0 by rw [hl,Nat.zero_mul])] at hx;cases hx
 refine ⟨g,cap,rfl,(Array.getElem?_eq_some_iff.1 hg).1,?_⟩;rw [<- htk,List.getElem?_take] at hx;split at hx;rotate_left
 · cases hx
 rw [Lib.cell_of_heap hg];simpa using hx
theorem rec_cs {rs:List R3} (h:RecOwn w base v rs vs) (hk:k<rs.length):∃ g c a d,v=.slice (some ⟨g,0,none⟩) rs.length c/\g<w.heap.size/\vs.getD k undef=.slice a (rs.getD k r3z).gs.length d/\w.cell? ⟨g,k*3,none⟩=some (.string (rs.getD k r3z).key)/\w.cell? ⟨g,k*3+1,none⟩=some (.slice a (rs.getD k r3z).gs.length d)/\w.cell? ⟨g,k*3+2,none⟩=some (.string (rs.getD k r3z).out)/\w.ownsRow base 119 3 (.slice a (rs.getD k r3z).gs.length d) (rs.getD k r3z).gs.length (gC (rs.getD k r3z).gs):=by
 obtain ⟨a0,a1,a2⟩:=rC_at rs vs k hk;obtain ⟨a,d,hv,hr⟩:=h.gl k hk;rw [hv] at a1;obtain ⟨g,c,rfl,hg,e0⟩:=row_at h.row a0;obtain ⟨_,_,q1,_,e1⟩:=row_at h.row a1;obtain ⟨_,_,q2,_,e2⟩:=row_at h.row a2;injection q1 with q1;injection q1 with q1;injection q1 with q1;injection q2 with q2;injection q2 with q2;injection q2 with q2;subst q1 q2;exact ⟨g,c,a,d,rfl,hg,hv,e0,e1,e2,hr⟩
structure C7 (w:World) (A:Nat) (s:St) (tv rv tv' v2:Value) (P:List R3) (vs:List Value) (u:World):Prop where
 b:Below w.heap.size w u
 h0:Cl u w.heap.size 29 [.int .i64 s.wd,tv,rv]
 h1:Cl u (w.heap.size+1) 29 [.int .i64 0,.slice none 0 0,.slice none 0 0]
 ha:Cl u A 29 [.int .i64 s.wd,tv',v2]
 hA:w.heap.size+2<=A
 ht:u.ownsRow (w.heap.size+2) 9 1 tv' s.ts.length (s.ts.map .string)
 hr:RecOwn u (w.heap.size+2) v2 P vs
theorem C7.below {s:St} {tv' v2:Value} {P:List R3} (h:C7 w A s tv rv tv' v2 P vs u) (hb:Below u.heap.size u u'):C7 w A s tv rv tv' v2 P vs u':=
 ⟨h.b.trans (hb.mono h.b.size),h.h0.below hb h.h0.lt,h.h1.below hb h.h1.lt,h.ha.below hb h.ha.lt,h.hA,own_below h.ht hb,h.hr.keep (fun q t hT _ _=>hb.block q (ofT_lt hT))⟩
theorem cl_ofT {B:Nat} (h:Cl w B t xs):OfT w B t:=⟨_,_,h⟩
theorem C7.make {s:St} {tv':Value} {W y z:World} (bW:Below w.heap.size w W) (h0:Cl W w.heap.size 29 [.int .i64 s.wd,tv,rv]) (h1:Cl W (w.heap.size+1) 29 [.int .i64 0,.slice none 0 0,.slice none 0 0]) (hz:W.heap.size=w.heap.size+2) (hb:Below W.heap.size W y) (hA:w.heap.size+2<=A) (ht:y.ownsRow (w.heap.size+2) 9 1 tv' s.ts.length (s.ts.map .string)) (ho:OnB A y z) (hc:Cl y A 29 xs) (hc':Cl z A 29 [.int .i64 s.wd,tv',.slice none 0 0]):C7 w A s tv rv tv' (.slice none 0 0) [] [] z:=
 have hB:Below (w.heap.size+2) W z:=(hz▸hb).trans (ho.below hA)
 ⟨bW.trans (hB.mono om_),h0.below hB om_,h1.below hB om_,hc',hA,own_keep' ht (fun q hq=>ho.block q (fun e=>absurd (ofT_one (cl_ofT hc) (e▸own_ofT ht hq)) dc_)),⟨rfl,World.ownsRow_nil _ _ _ _,fun i h=>absurd h (Nat.not_lt_zero _),fun i j h=>absurd h (Nat.not_lt_zero _)⟩⟩
theorem C7.app {s:St} {tv' v2 v7:Value} {P:List R3} {y:R3} {y6 Z y7:World} {a5:Option Addr} {d5:Nat} (h:C7 w A s tv rv tv' v2 P vs u) (b6:Below u.heap.size u y6) (r6:y6.ownsRow (u.heap.size+1) 119 3 (.slice a5 y.gs.length d5) y.gs.length (gC y.gs)) (hZ:Below y6.heap.size y6 Z) (O7:y7.ownsRow (w.heap.size+2) 96 3 v7 (P.length+1) (rC P vs++[.string y.key,.slice a5 y.gs.length d5,.string y.out])) (g7:Z.grownBy y7 v2.ownBlock):
 C7 w A s tv rv tv' v7 (P++[y]) (vs++[.slice a5 y.gs.length d5]) (y7.setCell ⟨A,2,none⟩ v7)/\Cl y7 A 29 [.int .i64 s.wd,tv',v2]:=by
 have bZ:Below u.heap.size u Z:=bT_ b6 hZ;have HZ:=h.below bZ;have hu:=h.b.size;have ha:=h.ha.lt;have hA:=h.hA;have b7:=gr_bW (Below.refl (w.heap.size+2) Z) g7 (by have:=bZ.size;omega) (fun j e=>own_blk h.hr.row e);have kp:∀ q t,OfT Z q t->t≠96->y7.heap[q]?=Z.heap[q]?:=fun q t hT ht=>g7.block q (ofT_lt hT) (fun e=>ht (ofT_one hT (own_ofT HZ.hr.row e.symm)));have cA:Cl y7 A 29 [.int .i64 s.wd,tv',v2]:=(kp A 29 (cl_ofT HZ.ha) dc_).trans HZ.ha;have hs:=on_set y7 A 2 v7;have bF:Below (w.heap.size+2) Z (y7.setCell ⟨A,2,none⟩ v7):=b7.trans (hs.below hA);have kF:∀ q t,OfT Z q t->t≠96->t≠29->(y7.setCell ⟨A,2,none⟩ v7).heap[q]?=Z.heap[q]?:=fun q t hT h1 h2=>(hs.block q (fun e=>h2 (ofT_one (e▸hT) (cl_ofT HZ.ha)))).trans (kp q t hT h1);refine ⟨⟨HZ.b.trans (bF.mono om_),HZ.h0.below bF om_,HZ.h1.below bF om_,cA.set 2 v7,hA,own_keep' HZ.ht (fun q hq=>kF q 9 (own_ofT HZ.ht hq) dc_ dc_),?_⟩,cA⟩;have o7:(y7.setCell ⟨A,2,none⟩ v7).ownsRow (w.heap.size+2) 96 3 v7 (P.length+1) (rC P vs++[.string y.key,.slice a5 y.gs.length d5,.string y.out]):=own_keep' O7 (fun q hq=>hs.block q (fun e=>absurd (ofT_one (cl_ofT cA) (e▸own_ofT O7 hq)) dc_));have r7:=own_keep' (own_below r6 hZ) (fun q hq=>kF q 119 (own_ofT (own_below r6 hZ) hq) dc_ dc_);exact rec_push h.hr (own_low r7 om_) o7 (fun q hq=>(kF q 119 (hq.below bZ (ofT_lt hq)) dc_ dc_).trans (bZ.block q (ofT_lt hq))) (fun q hq=>by have:=own_blk r6 hq;omega)
theorem str_one (ts:List ByteArray):∀ v∈ts.map Value.string,v.oneCell'=true:=fun v hv=>by
 obtain ⟨x,_,rfl⟩:=List.mem_map.1 hv;rfl
theorem own_ne {v:Value} {q n c k:Nat} (h:v.ownBlock=(Value.slice (some ⟨q,0,none⟩) n c).ownBlock\/v.ownBlock=some k):v.ownBlock≠none:=by
 rcases h with h | h <;> rw [h] <;> exact fun e=>nomatch e
theorem own_setNe {X j:Nat} {y:Value} (h:w.ownsRow base e size v n xs) (hv:v.ownBlock≠some X):(w.setCell ⟨X,j,none⟩ y).ownsRow base e size v n xs:=own_keep' h (fun q hq=>(on_set w X j y).block q (fun e=>hv (e▸hq)))
theorem recL {base':Nat} {rs:List R3} (h:RecOwn w base v rs vs) (hb:base'<=base):RecOwn w base' v rs vs:=⟨h.len,own_low h.row hb,fun i hi=>(by obtain ⟨a3,c3,e,h3⟩:=h.gl i hi;exact ⟨a3,c3,e,own_low h3 hb⟩),h.apart⟩
theorem pre_next {P rs:List R3} (h:P <+:rs) (hl:P.length<rs.length):P++[rs.getD P.length r3z] <+:rs:=by
 obtain ⟨t,rfl⟩:=h
 cases t with
 | nil=>simp at hl
 | cons x r=>exact ⟨r,by simp [List.getD]⟩
theorem c70 (s:St) (b0:Nat) (tv rv:Value) (w:World) (htl:s.ts.length<=1000) (hrl:s.rs.length<=1000) (hgl:∀ i,(s.rs.getD i r3z).gs.length<=1000) (hst:StOwn w b0 s.ts s.rs tv rv):
 Calls prog 70 #[.agg #[.int .i64 s.wd,tv,rv]] w fun e w'=>(∃ g c ra rc,e=.returned (.agg #[.int .i64 s.wd,.slice (some ⟨g,0,none⟩) s.ts.length c,.slice ra s.rs.length rc])/\StOwn w' w.heap.size s.ts s.rs (.slice (some ⟨g,0,none⟩) s.ts.length c) (.slice ra s.rs.length rc))/\Below w.heap.size w w':=by
 have HST:=hI_ hst;obtain ⟨ta,tc,rfl⟩:=row_sl hst.1;obtain ⟨_,vs0,hr0⟩:=hst;obtain ⟨ra,rc,rfl⟩:=row_sl hr0.row;clear hr0;have HGL:=hI_ hgl;clear hgl;go_enter func70,ntmps70
 go_upto_region 1 with fail
 obtain ⟨W,hW⟩:∃ W:World,W=(w.alloc (.cells #[.int .i64 s.wd,.slice ta s.ts.length tc,.slice ra s.rs.length rc] 29)).alloc (.cells #[.int .i64 0,.slice none 0 0,.slice none 0 0] 29):=⟨_,rfl⟩;rw [<- hW];have bW:Below w.heap.size w W:=by rw [hW];exact bA_.alloc sm_ _
 have H0:Hid (Cl W w.heap.size 29 [.int .i64 s.wd,.slice ta s.ts.length tc,.slice ra s.rs.length rc]):=by show Cl _ _ _ _;rw [hW];exact cl_old (cl_new w [_,_,_] 29) _
 have H1:Hid (Cl W (w.heap.size+1) 29 [.int .i64 0,.slice none 0 0,.slice none 0 0]):=by show Cl _ _ _ _;rw [hW];exact cl_at (xs:=[_,_,_]) sm_
 have HZ:Hid (W.heap.size=w.heap.size+2):=by show _=_;rw [hW];simp
 have HS:Hid (∀ y,Below W.heap.size W y->y.cell? ⟨w.heap.size,0,none⟩=some (.int .i64 s.wd)/\y.cell? ⟨w.heap.size,1,none⟩=some (.slice ta s.ts.length tc)):=fun y hy=>have h:=H0.out.below hy H0.out.lt;⟨h.cell 0,h.cell 1⟩
 have HR:Hid (∀ y,Below W.heap.size W y->Src y (.slice ta s.ts.length tc) 1 s.ts.length (s.ts.map .string)):=fun y hy=>row_src HST.out.1 (fun g hg=>(bT_ bW hy).block g (own_lt HST.out.1 hg));clear hW
 go_cut [3] from 3 (fun s3 wx=>∃ A g c,s3=.pointer (some ⟨A,0,none⟩)/\Hid (C7 w A s (.slice ta s.ts.length tc) (.slice ra s.rs.length rc) (.slice (some ⟨g,0,none⟩) s.ts.length c) (.slice none 0 0) [] [] wx))
 case first=>
  have hbd:Below W.heap.size W W.drew:=(Below.refl _ _).drew;have HM:Hid (∀ (A:Nat) (tv':Value) (y z:World),Below W.heap.size W y->w.heap.size+2<=A->y.ownsRow (w.heap.size+2) 9 1 tv' s.ts.length (s.ts.map .string)->OnB A y z->Cl y A 29 [.int .i64 0,.slice none 0 0,.slice none 0 0]->Cl z A 29 [.int .i64 s.wd,tv',.slice none 0 0]->C7 w A s (.slice ta s.ts.length tc) (.slice ra s.rs.length rc) tv' (.slice none 0 0) [] [] z):=fun A tv' y z h1 h2 h3 h4 h5 h6=>C7.make bW H0.out H1.out HZ.out h1 h2 h3 h4 h5 h6;refine wp_region_held_drew (S:=fun u=>u.cell? ⟨w.heap.size,0,none⟩=some (.int .i64 s.wd)/\u.cell? ⟨w.heap.size,1,none⟩=some (.slice ta s.ts.length tc)) kr_ (HS.out _ hbd) fun hH=>?_;refine tq 0 hH ?_;refine tq 1 hH ?_;refine tq 3 hH ?_;refine tq 4 hH ?_
  try simp only [qq]
  have hz2:w.heap.size+2<=W.heap.size:=Nat.le_of_eq HZ.out.symm;refine wpAnyH_ready (rs:=[2,7]) kr_ sm_ (AllReadyH.cons (o:=⟨some 8,.buildSlice 22 0 #[],22,_,_,none⟩) rfl (fun K hK=>?_) (AllReadyH.cons (o:=⟨some 3,.alloc 29,0,_,_,none⟩) rfl (fun K hK=>?_) AllReadyH.nil))
  · go_simp
    obtain ⟨y,hy⟩:∃ q:World,q=(W.alloc (.cells #[] 9)).drew:=⟨_,rfl⟩;rw [<- hy];have b1:Below W.heap.size W y:=by rw [hy];exact bA_.drew
    have R1:Hid (y.ownsRow (w.heap.size+2) 9 1 (.slice (some ⟨W.heap.size,0,none⟩) 0 0) 0 []):=by show World.ownsRow _ _ _ _ _ _ _;rw [hy];exact row0 W 9 1 rfl hz2
    clear hy;refine hK.out _ _ (HS.out _ b1) fun hH=>?_;clear hK K
    try simp only [qq]
    refine wpAnyH_ready (rs:=[5,7]) kr_ sm_ (AllReadyH.cons (o:=⟨some 11,.call ⟨.builtin .append,#[.tmp 8,.tmp 10],#[22,22]⟩,22,_,_,none⟩) rfl (fun K hK=>?_) (AllReadyH.cons (o:=⟨some 3,.alloc 29,0,_,_,none⟩) rfl (fun K hK=>?_) AllReadyH.nil))
    · refine st_app rfl _ _ 22 rfl (w.heap.size+2) 9 1 underlying22 inf9 dc_ (.slice (some ⟨W.heap.size,0,none⟩) 0 0) 0 [] rfl R1.out _ s.ts.length (s.ts.map .string) rfl (HR.out _ b1) (str_one _) om_ (by have:=b1.size;omega) ?_
      intro v yv Ov gv av;rw [Nat.zero_add,List.nil_append] at Ov;obtain ⟨g,c,rfl⟩:=row_sm Ov (own_ne av);have bg:=gr_bW (Below.refl (w.heap.size+2) _) gv (by have:=b1.size;omega) (fun j e=>own_blk R1.out e);have bv:Below W.heap.size W yv:=b1.trans (HZ.out.symm▸bg);have OV:=hI_ Ov;have gq:=gv;clear Ov gv av;refine hK.out _ _ (HS.out _ bv) fun hH=>?_;clear hK K
      try simp only [qq]
      refine tq 6 hH ?_
      try simp only [qq]
      refine rq 7 fun K hK=>?_;go_simp;obtain ⟨y3,hy⟩:∃ q:World,q=yv.alloc (.cells #[.int .i64 0,.slice none 0 0,.slice none 0 0] 29):=⟨_,rfl⟩;have b3:Below W.heap.size W y3:=by rw [hy];exact bv.alloc bv.size _
      have CA:Hid (Cl y3 yv.heap.size 29 [.int .i64 0,.slice none 0 0,.slice none 0 0]):=by show Cl _ _ _ _;rw [hy];exact cl_new _ [_,_,_] 29
      rw [<- hy];have O3:=hI_ (own_below OV.out (u':=y3) (by rw [hy];exact bA_));clear hy;refine hK.out _ _ (HS.out _ b3) fun hH=>?_;clear hK K
      try simp only [qq]
      refine rq 8 fun K hK=>?_;refine st_stN rfl 29 _ _ rfl (B:=yv.heap.size) (j:=0) rfl (vs:=[.int .i64 s.wd,.slice (some ⟨g,0,none⟩) s.ts.length c,.slice none 0 0]) rfl CA.out lr_ (by simp [Value.oneCell']) kr_ ?_;intro z cz oz;have hz8:=hI_ (HM.out _ _ _ _ b3 (by have:=bv.size;omega) O3.out oz CA.out cz);refine hK.out _ _ (HS.out _ (b3.trans (oz.below (by have:=b1.size;have:=bv.size;omega)))) fun hH=>?_;clear hK K
      try simp only [qq]
      refine wpAnyH_done kr_ ?_ _
      go_wp2_with fail
      go_meet
      case rel=>exact ⟨_,_,_,rfl,hz8⟩
    go_simp;obtain ⟨y2,hy⟩:∃ q:World,q=y.alloc (.cells #[.int .i64 0,.slice none 0 0,.slice none 0 0] 29):=⟨_,rfl⟩;have b2:Below W.heap.size W y2:=by rw [hy];exact b1.alloc b1.size _
    have CA:Hid (Cl y2 y.heap.size 29 [.int .i64 0,.slice none 0 0,.slice none 0 0]):=by show Cl _ _ _ _;rw [hy];exact cl_new _ [_,_,_] 29
    rw [<- hy];have R2:=hI_ (own_below R1.out (u':=y2) (by rw [hy];exact bA_));clear hy;refine hK.out _ _ (HS.out _ b2) fun hH=>?_;clear hK K
    try simp only [qq]
    refine rq 5 fun K hK=>?_;refine st_app rfl _ _ 22 rfl (w.heap.size+2) 9 1 underlying22 inf9 dc_ (.slice (some ⟨W.heap.size,0,none⟩) 0 0) 0 [] rfl R2.out _ s.ts.length (s.ts.map .string) rfl (HR.out _ b2) (str_one _) om_ (by have:=b2.size;omega) ?_;intro v yv Ov gv av;rw [Nat.zero_add,List.nil_append] at Ov;obtain ⟨g,c,rfl⟩:=row_sm Ov (own_ne av);have bg:=gr_bW (Below.refl (w.heap.size+2) _) gv (by have:=b2.size;omega) (fun j e=>own_blk R2.out e);have bv:Below W.heap.size W yv:=b2.trans (HZ.out.symm▸bg);have OV:=hI_ Ov;have gq:=gv;clear Ov gv av;refine hK.out _ _ (HS.out _ bv) fun hH=>?_;clear hK K
    try simp only [qq]
    refine tq 6 hH ?_
    try simp only [qq]
    have CV:Hid (Cl yv y.heap.size 29 [.int .i64 0,.slice none 0 0,.slice none 0 0]):=(gq.block _ CA.out.lt (fun e=>absurd (ofT_one (cl_ofT CA.out) (own_ofT R2.out e.symm)) dc_)).trans CA.out;refine rq 8 fun K hK=>?_;refine st_stN rfl 29 _ _ rfl (B:=y.heap.size) (j:=0) rfl (vs:=[.int .i64 s.wd,.slice (some ⟨g,0,none⟩) s.ts.length c,.slice none 0 0]) rfl CV.out lr_ (by simp [Value.oneCell']) kr_ ?_;intro z cz oz;have hz8:=hI_ (HM.out _ _ _ _ bv (by have:=b1.size;omega) OV.out oz CV.out cz);refine hK.out _ _ (HS.out _ (bv.trans (oz.below (by have:=b1.size;have:=bv.size;omega)))) fun hH=>?_;clear hK K
    try simp only [qq]
    refine wpAnyH_done kr_ ?_ _
    go_wp2_with fail
    go_meet
    case rel=>exact ⟨_,_,_,rfl,hz8⟩
  go_simp;obtain ⟨y,hy⟩:∃ q:World,q=(W.alloc (.cells #[.int .i64 0,.slice none 0 0,.slice none 0 0] 29)).drew:=⟨_,rfl⟩;have b1:Below W.heap.size W y:=by rw [hy];exact bA_.drew
  have CA:Hid (Cl y W.heap.size 29 [.int .i64 0,.slice none 0 0,.slice none 0 0]):=by show Cl _ _ _ _;rw [hy];exact cl_new _ [_,_,_] 29
  rw [<- hy];have hys:W.heap.size<y.heap.size:=CA.out.lt;clear hy;refine hK.out _ _ (HS.out _ b1) fun hH=>?_;clear hK K
  try simp only [qq]
  refine rq 2 fun K hK=>?_;go_simp;obtain ⟨y2,hy⟩:∃ q:World,q=y.alloc (.cells #[] 9):=⟨_,rfl⟩;rw [<- hy];have hbb:Below y.heap.size y y2:=by rw [hy];exact bA_
  have b2:Below W.heap.size W y2:=bT_ b1 hbb;have R2:Hid (y2.ownsRow (w.heap.size+2) 9 1 (.slice (some ⟨y.heap.size,0,none⟩) 0 0) 0 []):=by show World.ownsRow _ _ _ _ _ _ _;rw [hy];exact row0 y 9 1 rfl om_
  have CA:=hI_ (CA.out.below hbb CA.out.lt);clear hy;refine hK.out _ _ (HS.out _ b2) fun hH=>?_;clear hK K
  try simp only [qq]
  refine rq 5 fun K hK=>?_;refine st_app rfl _ _ 22 rfl (w.heap.size+2) 9 1 underlying22 inf9 dc_ (.slice (some ⟨y.heap.size,0,none⟩) 0 0) 0 [] rfl R2.out _ s.ts.length (s.ts.map .string) rfl (HR.out _ b2) (str_one _) om_ (by have:=b2.size;omega) ?_;intro v yv Ov gv av;rw [Nat.zero_add,List.nil_append] at Ov;obtain ⟨g,c,rfl⟩:=row_sm Ov (own_ne av);have bg:=gr_bW (Below.refl (w.heap.size+2) _) gv (by have:=b2.size;omega) (fun j e=>own_blk R2.out e);have bv:Below W.heap.size W yv:=b2.trans (HZ.out.symm▸bg);have OV:=hI_ Ov;have gq:=gv;clear Ov gv av;refine hK.out _ _ (HS.out _ bv) fun hH=>?_;clear hK K
  try simp only [qq]
  refine tq 6 hH ?_
  try simp only [qq]
  have CV:Hid (Cl yv W.heap.size 29 [.int .i64 0,.slice none 0 0,.slice none 0 0]):=(gq.block _ CA.out.lt (fun e=>absurd (ofT_one (cl_ofT CA.out) (own_ofT R2.out e.symm)) dc_)).trans CA.out;refine rq 8 fun K hK=>?_;refine st_stN rfl 29 _ _ rfl (B:=W.heap.size) (j:=0) rfl (vs:=[.int .i64 s.wd,.slice (some ⟨g,0,none⟩) s.ts.length c,.slice none 0 0]) rfl CV.out lr_ (by simp [Value.oneCell']) kr_ ?_;intro z cz oz;have hz8:=hI_ (HM.out _ _ _ _ bv hz2 OV.out oz CV.out cz);refine hK.out _ _ (HS.out _ (bv.trans (oz.below (by have:=b1.size;have:=bv.size;omega)))) fun hH=>?_;clear hK K
  try simp only [qq]
  refine wpAnyH_done kr_ ?_ _
  go_wp2_with fail
  go_meet
  case rel=>exact ⟨_,_,_,rfl,hz8⟩
 obtain ⟨A,g,c,rfl,HC⟩:=hcut;clear HS HR H0 H1 HZ bW
 go_wp2_with fail
 go_loopw [4] (fun i wr=>∃ (P:List R3) (v2:Value) (vs:List Value),i=.int .i64 P.length/\P.length<=s.rs.length/\Hid (P <+:s.rs)/\Hid (C7 w A s (.slice ta s.ts.length tc) (.slice ra s.rs.length rc) (.slice (some ⟨g,0,none⟩) s.ts.length c) v2 P vs wr)) (fun i _=>s.rs.length - (intOf i).toNat)
 case atStart=>exact ⟨[],_,_,rfl,Nat.zero_le _,List.nil_prefix,HC⟩
 obtain ⟨P,v2,vs,rfl,hk,hP,H⟩:=hrel;obtain ⟨a2,c2,rfl⟩:=row_sl H.out.hr.row;have d0:=H.out.h0.cell 2;have k0:=H.out.ha.cell 0;have k1:=H.out.ha.cell 1;have k2:=H.out.ha.cell 2;dsimp only [List.getElem?_cons_zero,List.getElem?_cons_succ] at d0 k0 k1 k2;by_cases hlt:P.length<s.rs.length;rotate_left
 · have hPe:P=s.rs:=List.IsPrefix.eq_of_length hP.out om_
   subst hPe
   go_wp2_with (refine wl_stN rfl 29 _ _ rfl (B:=w.heap.size+1) (j:=0) rfl (vs:=[.int .i64 s.wd,.slice (some ⟨g,0,none⟩) s.ts.length c,.slice a2 s.rs.length c2]) rfl H.out.h1 lr_ (by simp [Value.oneCell']) kr_ ?_;intro z cz oz)
   have kz:∀ q t,OfT wr q t->t≠29->z.heap[q]?=wr.heap[q]?:=fun q t hT h=>oz.block q (fun e=>h (ofT_one (e▸hT) (cl_ofT H.out.h1)));exact bodyPost_ret (v:=.agg #[.int .i64 s.wd,.slice (some ⟨g,0,none⟩) s.ts.length c,.slice a2 s.rs.length c2]) (results_blk (P:=prog) (ty:=29) rfl _ z (w.heap.size+1) [.int .i64 s.wd,.slice (some ⟨g,0,none⟩) s.ts.length c,.slice a2 s.rs.length c2] _ rfl cz.blk underlying29 rfl kr_) rfl ⟨⟨_,_,_,_,rfl,own_low (own_keep' H.out.ht (fun q hq=>kz q 9 (own_ofT H.out.ht hq) dc_)) om_,vs,recL (H.out.hr.keep (fun q t hT ht _=>kz q t hT (by rcases ht with rfl | rfl <;> decide))) om_⟩,H.out.b.trans (oz.below om_)⟩
 obtain ⟨_,vs0,hr0⟩:=stOwn_below HST.out H.out.b;obtain ⟨g5,c5,ga,gd,hrv,hg5,_,e0,e1,e2,hgr⟩:=rec_cs hr0 hlt;obtain ⟨rfl,rfl⟩:ra=some ⟨g5,0,none⟩/\rc=c5:=by injection hrv with h1 _ h3;exact ⟨h1,h3⟩
 have hn:=HGL.out P.length;have HPY:=hI_ (pre_next hP.out hlt);generalize s.rs.getD P.length r3z=y at*;have HGR:=hI_ hgr;clear hr0 hgr hrv hP;obtain ⟨Y,hY⟩:∃ Y:World,Y=(wr.alloc (.cells #[.string y.key,.slice ga y.gs.length gd,.string y.out] 96)).alloc (.cells #[] 119):=⟨_,rfl⟩;have bY:Below wr.heap.size wr Y:=by rw [hY];exact bA_.alloc sm_ _
 have CX:Hid (Cl Y wr.heap.size 96 [.string y.key,.slice ga y.gs.length gd,.string y.out]):=by show Cl _ _ _ _;rw [hY];exact cl_old (cl_new wr [_,_,_] 96) _
 have RX:Hid (Y.ownsRow (wr.heap.size+1) 119 3 (.slice (some ⟨wr.heap.size+1,0,none⟩) 0 0) 0 []):=by show World.ownsRow _ _ _ _ _ _ _;rw [hY];exact row0 _ 119 3 sm_ lr_
 have SX:=hI_ (row_src HGR.out (u:=Y) (fun q hq=>bY.block q (own_lt HGR.out hq)));have hYs:=CX.out.lt
 go_upto_region 7 with (at_builtin;rw [<- hY];refine wl_app rfl _ _ 94 rfl (wr.heap.size+1) 119 3 underlying94 inf119 dc_ (.slice (some ⟨wr.heap.size+1,0,none⟩) 0 0) 0 [] rfl RX.out _ y.gs.length (gC y.gs) rfl SX.out (gC_one y.gs) om_ om_ ?_;intro v5 y5 O5 gw _;rw [Nat.zero_add,List.nil_append] at O5;obtain ⟨a5,d5,rfl⟩:=row_sl O5;have b5:=gr_bW (Below.refl (wr.heap.size+1) Y) gw om_ (fun j e=>own_blk RX.out e);have C5:=CX.out.below b5 om_;have n1:=C5.cell 1;have nf:=C5.opn 1;dsimp only [List.getElem?_cons_zero,List.getElem?_cons_succ] at n1;clear gw)
 obtain ⟨y6,h6⟩:∃ q:World,q=y5.setCell ⟨wr.heap.size,1,none⟩ (.slice a5 y.gs.length d5):=⟨_,rfl⟩;rw [<- h6];have b6:Below wr.heap.size wr y6:=by rw [h6];exact (bY.trans (b5.mono om_)).setCell lr_ _
 have C6:Hid (Cl y6 wr.heap.size 96 [.string y.key,.slice a5 y.gs.length d5,.string y.out]):=by show Cl _ _ _ _;rw [h6];exact C5.set 1 _
 have R6:Hid (y6.ownsRow (wr.heap.size+1) 119 3 (.slice a5 y.gs.length d5) y.gs.length (gC y.gs)):=by show World.ownsRow _ _ _ _ _ _ _;rw [h6];exact own_setNe O5 (fun e=>by have:=own_blk O5 e;omega)
 have H6:=hI_ (H.out.below b6);clear h6 n1 nf C5 O5 b5 SX RX CX hYs bY hY d0 k0 k1 k2 e0 e1 e2;have k2:=H6.out.ha.cell 2;have x0:=C6.out.cell 0;have x1:=C6.out.cell 1;have x2:=C6.out.cell 2;dsimp only [List.getElem?_cons_zero,List.getElem?_cons_succ] at k2 x0 x1 x2;obtain ⟨Z,hZ⟩:∃ q:World,q=y6.alloc (.cells #[.string y.key,.slice a5 y.gs.length d5,.string y.out] 96):=⟨_,rfl⟩;have bZ:Below y6.heap.size y6 Z:=by rw [hZ];exact bA_
 have CZ:Hid (Cl Z y6.heap.size 96 [.string y.key,.slice a5 y.gs.length d5,.string y.out]):=by show Cl _ _ _ _;rw [hZ];exact cl_new _ [_,_,_] 96
 have HZ:=hI_ (H6.out.below bZ);have hb0:w.heap.size+2<=Z.heap.size:=by have:=HZ.out.ha.lt;have:=HZ.out.hA;omega
 go_wp2_with (at_builtin;rw [<- hZ];refine wl_app rfl _ _ 27 rfl (w.heap.size+2) 96 3 underlying27 inf96 dc_ (.slice a2 P.length c2) P.length (rC P vs) rfl HZ.out.hr.row _ 1 [.string y.key,.slice a5 y.gs.length d5,.string y.out] rfl (.inr ⟨⟨y6.heap.size,0,none⟩,1,rfl,rfl,cl_row CZ.out⟩) (by simp [Value.oneCell']) om_ hb0 ?_;intro v7 y7 O7 g7 _;obtain ⟨a7,c7,rfl⟩:=row_sl O7;obtain ⟨hN,hN2⟩:=H.out.app b6 R6.out bZ O7 g7;have m1:=hN2.cell 2;have m2:=hN2.opn 2;dsimp only [List.getElem?_cons_zero,List.getElem?_cons_succ] at m1;have HN:=hI_ hN;clear O7 g7 hN hN2)
 go_roundw
 case rel=>exact ⟨P++[y],_,_,by rw [List.length_append];go_num,by rw [List.length_append];simp;omega,HPY,HN⟩
 case measure=>simp [intOf];omega
end Go.Proofs.YtlckdgjfniglfaaGreatDoor
