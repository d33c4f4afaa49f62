import Derived.Test.YthjhakdpikdoeaaGreatDoorWF
set_option linter.unusedVariables false
set_option maxHeartbeats 8000000
set_option maxRecDepth 100000
namespace Go.Proofs.YthjhakdpikdoeaaGreatDoor
open Proofs.Tryz
open Go.RowKit
open G.T (F2 f2z FilesAt files_some)
def TrB (B:Nat) (w:World) (v:Value):Prop:=∃ a cap fs,v=.slice a fs.length cap/\FilesAt w a fs/\fs.length<=B/\∀ x∈fs,x.le 4000
theorem fi_le {fs:List F2} (h:∀ x∈fs,x.le 4000) (i:Nat):(fs.getD i f2z).le 4000:=by
 rcases Nat.lt_or_ge i fs.length with hi | hi
 · rw [show fs.getD i f2z=fs[i] from by simp [List.getD,hi]];exact h _ (List.getElem_mem hi)
 rw [show fs.getD i f2z=f2z from by simp [List.getD,hi]];exact ⟨dc_,dc_⟩
theorem TrB.below {B:Nat} {w w':World} {v:Value} (h:TrB B w v) (hb:Below w.heap.size w w'):TrB B w' v:=by
 obtain ⟨a,cap,fs,h1,h2,h3⟩:=h;exact ⟨a,cap,fs,h1,G.T.files_below h2 hb,h3⟩
theorem TrB.but {B q:Nat} {w w':World} {v:Value} (h:TrB B w v) (hb:But q w w') (hk:∀ k,v.ownBlock=some k->k≠q):TrB B w' v:=by
 obtain ⟨a,cap,fs,rfl,h2,h3⟩:=h;refine ⟨a,cap,fs,rfl,?_,h3⟩;rcases h2 with h2 | ⟨b,off,rfl,e2,e3⟩
 · exact .inl h2
 have:=hk b rfl;exact .inr ⟨b,off,rfl,Nat.lt_of_lt_of_le e2 hb.size,fun i hi=>by rw [hb.cell e2 this,hb.cell e2 this];exact e3 i hi⟩
theorem fiC_get1 (fs:List F2) (k:Nat) (h:k<fs.length):(fiC fs)[k*2+1]?=some (.string (fs.getD k f2z).tx):=by
 induction fs generalizing k with
 | nil=>cases h
 | cons x r ih=>
  cases k with
  | zero=>simp [fiC]
  | succ k=>
   have:=ih k (by simpa using h);rw [Nat.succ_mul];simpa [fiC] using this
theorem row_files {w:World} {base:Nat} {a:Option Addr} {c:Nat} {gs:List F2} (h:w.ownsRow base 123 2 (.slice a gs.length c) gs.length (fiC gs)):FilesAt w a gs:=by
 rcases h.2 with ⟨h1,h2⟩ | ⟨g,cp,cur,h1,hb,hg,hnc,hcm,hcs,htk⟩
 · exact .inl (List.length_eq_zero_iff.1 h2)
 injection h1 with h1 _ _;have k:∀ j x,(fiC gs)[j]?=some x->w.cell? ⟨g,0+j,none⟩=some x:=fun j x e=>by
  rw [<- htk,List.getElem?_take] at e;split at e
  · rw [Lib.cell_of_heap hg,Nat.zero_add,<- e];simp
  cases e
 refine .inr ⟨g,0,h1,(Array.getElem?_eq_some_iff.1 hg).1,fun i hi=>⟨k _ _ (fiC_get gs i hi),?_⟩⟩;rw [Nat.add_assoc];exact k _ _ (fiC_get1 gs i hi)
theorem row_trv {B:Nat} {w:World} {base:Nat} {v:Value} {gs:List F2} (h:w.ownsRow base 123 2 v gs.length (fiC gs)) (hl:gs.length<=B) (hs:∀ x∈gs,x.le 4000):TrB B w v:=by
 obtain ⟨a,c,rfl⟩:=row_sl h;exact ⟨a,c,gs,rfl,row_files h,hl,hs⟩
theorem cl_fi {w:World} {X j:Nat} {n c:Nat} {b:Option Addr} {s:ByteArray} (hX:Cl w X 51 [.slice b n c]) {B off:Nat} (h:w.cell? ⟨B,off,none⟩=some (.string s)):B≠X:=fun e=>by
 subst e;rw [hX.cell] at h;rcases off with _ | off <;> simp at h
theorem trv_set {A:Nat} {w:World} {x y:Value} {X n c:Nat} {b:Option Addr} (h:TrB A w x) (hX:Cl w X 51 [.slice b n c]):TrB A (w.setCell ⟨X,0,none⟩ y) x:=by
 obtain ⟨a,cap,fs,h1,h2,h3⟩:=h;refine ⟨a,cap,fs,h1,?_,h3⟩;rcases h2 with h2 | ⟨B,off,e1,e2,e3⟩
 · exact .inl h2
 refine .inr ⟨B,off,e1,by simpa using e2,fun i hi=>?_⟩;obtain ⟨k1,k2⟩:=e3 i hi;have hne:=cl_fi hX (j:=0) k1;exact ⟨(World.cell?_setCell_other _ _ _ _ sm_).trans k1,(World.cell?_setCell_other _ _ _ _ sm_).trans k2⟩
theorem c41 (v:Value) (nm tx:ByteArray) (w:World) (h:TrB 40 w v) (hn:nm.size<=4000) (ht:tx.size<=4000):
 Calls prog 41 #[.agg #[v],.string nm,.string tx] w fun e w'=>(∃ v',e=.returned (.agg #[v'])/\TrB 40 w' v'/\(v'=v\/∀ k,v'.ownBlock=some k->w.heap.size<=k))/\Below w.heap.size w w':=by
 obtain ⟨a,cap,fs,rfl,hat,hl,hs⟩:=h;have HAT:=hdI hat;have HS:=hdI hs;clear hat hs;go_enter func41,ntmps41
 go_wp2_with fail
 obtain ⟨W,hW⟩:∃ W:World,W=(w.alloc (.cells #[.slice a fs.length cap] 51)).alloc (.cells #[.slice none 0 0] 51):=⟨_,rfl⟩;rw [<- hW];have b0:Below w.heap.size w W:=by rw [hW];exact bA.alloc sm_ _
 have C0:Hid (Cl W w.heap.size 51 [.slice a fs.length cap]):=by show Cl _ _ _ _;rw [hW];exact cl_old (cl_new w [_] 51) _
 have C1:Hid (Cl W (w.heap.size+1) 51 [.slice none 0 0]):=by show Cl _ _ _ _;rw [hW];exact cl_at (xs:=[_]) sm_
 clear hW;refine (c76 a cap fs ⟨nm,tx⟩ W om_ (fi_le HS.out) ⟨hn,ht⟩ (G.T.files_below HAT.out b0)).mono ?_;rintro e w1 ⟨⟨v',c,gs,rfl,hr,hgl,hg⟩,hb1⟩;have T1:Hid (TrB 40 w1 v'):=row_trv hr om_ (fun y hy=>by rcases hg y hy with h | h;exact HS.out y h;rw [h];exact ⟨hn,ht⟩);have T0:Hid (TrB 40 w1 (.slice a fs.length cap)):=⟨a,cap,fs,rfl,G.T.files_below (G.T.files_below HAT.out b0) hb1,hl,HS.out⟩;have B1:=hdI (bT b0 hb1);have C0:=hdI (C0.out.below hb1 C0.out.lt);have C1:=hdI (C1.out.below hb1 C1.out.lt);obtain ⟨va,vc,rfl⟩:=row_sl hr;have KN:Hid (∀ k,(Value.slice va gs.length vc).ownBlock=some k->w.heap.size<=k):=fun k e=>Nat.le_trans b0.size (hr.lt k e).1;clear hr hg hb1 b0 HAT;have d0:=C0.out.cell 0;have d1:=C1.out.cell 0;have f1:=C1.out.opn 0;have hz:=C1.out.lt;dsimp only [List.getElem?_cons_zero] at d0 d1;have hz0:=C0.out.lt;have fin:∀ (u:World) (x:Value) (tm:Array Value),tm[6]?=some (.pointer (some ⟨w.heap.size+1,0,none⟩))->u.cell? ⟨w.heap.size+1,0,none⟩=some x->TrB 40 u x->(x=.slice a fs.length cap\/∀ k,x.ownBlock=some k->w.heap.size<=k)->Below w.heap.size w u->bodyPost prog f41 (fun e w'=>(∃ v',e=.returned (.agg #[v'])/\TrB 40 w' v'/\(v'=.slice a fs.length cap\/∀ k,v'.ownBlock=some k->w.heap.size<=k))/\Below w.heap.size w w') .ret ⟨tm,[]⟩ u:=fun u x tm h6 hu ht hk hb=>bodyPost_ret (v:=.agg #[x]) (by simp [results,Tryz.results41,go_sem,hu,h6]) rfl ⟨⟨x,rfl,ht,hk⟩,hb⟩;have tp:∀ (x:Value) (o:Obj),TrB 40 w1 x->TrB 40 ((w1.setCell ⟨w.heap.size+1,0,none⟩ x).alloc o) x:=fun x o h=>(trv_set h C1.out).below bA;by_cases hc:c=0
 · subst hc
   go_wp2;exact fin _ _ _ rfl ((World.cell?_alloc_lt _ _ _ so_).trans (World.cell?_setCell_same _ _ _ d1)) (tp _ _ T1.out) (.inr KN.out) ((B1.out.setCell (by show _<=w.heap.size+1;omega) _).alloc so_ _)
 have hcb:(c !=0)=true:=by simpa using hc
 go_wp2;exact fin _ _ _ rfl ((World.cell?_alloc_lt _ _ _ so_).trans (World.cell?_setCell_same _ _ _ d1)) (tp _ _ T0.out) (.inl rfl) ((B1.out.setCell (by show _<=w.heap.size+1;omega) _).alloc so_ _)
theorem ext_le (s:ByteArray) (a b:Nat):(s.extract a b).size<=s.size:=by rw [ByteArray.size_extract];omega
def lit8:List Value:=[.string ⟨#[32]⟩,.string ⟨#[10]⟩,.string ⟨#[34]⟩,.string ⟨#[92]⟩,.string ⟨#[48]⟩,.string ⟨#[120]⟩,.string ⟨#[58]⟩,.string ⟨#[0]⟩]
def strB (N:Nat) (v:Value):Bool:=match v with | .string z=>decide (z.size<=N) | _=>false
theorem lit_str (l:List Value) (N:Nat) (h:l.all (strB N)=true) {r:Int} (h0:0<=r) (h1:r<(l.length:Int)):∃ z:ByteArray,l[r.toNat]?=some (.string z)/\z.size<=N:=by
 have hl:r.toNat<l.length:=om_;have hm:=List.all_eq_true.1 h _ (List.getElem_mem hl);unfold strB at hm;split at hm
 · rename_i z hz
   exact ⟨z,by rw [List.getElem?_eq_getElem hl,hz],by simpa using hm⟩
 cases hm
theorem son1 (y:Int):(strOfNums [y]).size=1:=rfl
theorem bend_at {r:Int} {n:Nat} (h0:0<=r) (h1:r<256) (hn:n<=1000):∃ i:Nat,wrap64 ((wrap64 (r*((n:Int)+1))).tdiv 256)=(i:Int)/\i<=n:=by
 have h2:0<=r*((n:Int)+1):=Int.mul_nonneg h0 om_;have h3:r*((n:Int)+1)<=255*((n:Int)+1):=Int.mul_le_mul_of_nonneg_right om_ om_;generalize r*((n:Int)+1)=m at*;have e1:wrap64 m=m:=by unfold wrap64;omega
 rw [e1,Int.tdiv_eq_ediv_of_nonneg h2];have e2:wrap64 (m / 256)=m / 256:=by unfold wrap64;omega
 exact ⟨(m / 256).toNat,by rw [e2];omega,om_⟩
theorem c50 (q P:Nat) (s:ByteArray) (w:World) (hp:P<=100000) (hs:s.size<=1000) (hr:RdTo w q P):
 Calls prog 50 #[.pointer (some ⟨q,0,none⟩),.string s] w fun e w'=>(∃ x:ByteArray,e=.returned (.string x)/\x.size<=2010)/\RdTo w' q (P+3)/\But q w w':=by
 have HR:Hid (RdTo w q P):=hr;clear hr;go_enter func50,ntmps50
 go_wp2_with fail
 refine (pickT w q P 256 om_ om_ om_ HR.out).mono ?_;rintro e w1 ⟨⟨r,rfl,h0,h1⟩,H1,ho⟩;have H1:Hid (RdTo w1 q (P+1)):=H1;have B1:Hid (But q w w1):=ho.but;clear ho HR;obtain ⟨i,hE,hi⟩:=bend_at (n:=s.size) h0 h1 hs
 go_wp2_with fail
 refine (pickT w1 q (P+1) 5 om_ om_ om_ H1.out).mono ?_;rintro e w2 ⟨⟨r2,rfl,h20,h21⟩,H2,ho⟩;have H2:Hid (RdTo w2 q (P+2)):=H2;have B2:Hid (But q w w2):=B1.out.trans ho.but;clear ho H1 B1;rw [hE];generalize wrap64 (r*((s.size:Int)+1))=mm at*;clear hE h0 h1;have e1:=ext_le s 0 i;have e2:=ext_le s i s.size;have e3:=ext_le s (i+1) s.size;have hw1:IntKind.i64.wrap ((i:Int)+1)=(i:Int)+1:=by simp [IntKind.wrap,IntKind.signed,IntKind.bits];omega
 have h01:0<=(i:Int)+1:=om_;have mark:True:=trivial;obtain rfl | rfl | rfl | rfl | rfl:r2=0\/r2=1\/r2=2\/r2=3\/r2=4:=om_
 · go_wp2
   go_ret;exact ⟨⟨_,rfl,om_⟩,H2.out.mono om_,B2.out⟩
 · go_wp2_with fail
   refine wp_region_held_drew (S:=fun _=>True) kr_ trivial fun hH=>?_;obtain ⟨u,hu⟩:∃ u:World,u=w2.drew:=⟨_,rfl⟩;rw [<- hu];have Lu:Below w2.heap.size w2 u:=by rw [hu];exact (Below.refl _ _).drew
   clear hu;refine tq 0 hH ?_;refine tq 1 hH ?_;refine tq 2 hH ?_
   try simp only [qq]
   refine tq 4 hH ?_;refine tq 9 hH ?_;refine tq 10 hH ?_
   try simp only [qq]
   refine tq 11 hH ?_
   try simp only [qq]
   refine wpAnyH_ready (rs:=[3,5]) kr_ sm_ (AllReadyH.cons (o:=⟨some 25,_,98,_,_,none⟩) rfl (fun K hK=>?_) (AllReadyH.cons (o:=⟨some 27,.call ⟨.value (.func 18),#[.tmp 26,.const (.int .i64 8)],#[45,3]⟩,3,_,_,none⟩) rfl (fun K hK=>?_) AllReadyH.nil))
   all_goals generalize s.extract 0 i=x1 at e1 ⊢
   all_goals generalize s.extract i s.size=x2 at e2 ⊢
   go_simp;obtain ⟨y,hy⟩:∃ y:World,y=u.alloc (.cells #[.string ⟨#[32]⟩,.string ⟨#[10]⟩,.string ⟨#[34]⟩,.string ⟨#[92]⟩,.string ⟨#[48]⟩,.string ⟨#[120]⟩,.string ⟨#[58]⟩,.string ⟨#[0]⟩] 9):=⟨_,rfl⟩;rw [<- hy];have Ly:Below w2.heap.size w2 y:=by rw [hy];exact Lu.alloc Lu.size _
   have Cy:Hid (Cl y u.heap.size 9 lit8):=by show Cl _ _ _ _;rw [hy];exact cl_new u _ 9
   have hqy:q<u.heap.size:=(H2.out.later Lu).lt;clear hy hH;refine hK.out _ _ trivial fun hH=>?_;clear hK K
   try simp only [qq]
   refine rq 5 fun K hK=>?_;go_simp;refine (pickT y q (P+2) 8 om_ om_ om_ (H2.out.later Ly)).mono ?_;rintro e w3 ⟨⟨r3,rfl,h30,h31⟩,H3,ho⟩;have H3:Hid (RdTo w3 q (P+3)):=H3;have B3:Hid (But q w w3):=(B2.out.later Ly).trans ho.but;have C3:Hid (Cl w3 u.heap.size 9 lit8):=(ho.block _ om_).trans Cy.out;clear ho hH;go_simp;refine hK.out _ _ trivial fun hH=>?_;clear hK K
   try simp only [qq]
   generalize u.heap.size=B at C3 ⊢;revert mark;rotate_left;go_simp;refine (pickT u q (P+2) 8 om_ om_ om_ (H2.out.later Lu)).mono ?_;rintro e w3 ⟨⟨r3,rfl,h30,h31⟩,H3,ho⟩;have H3:Hid (RdTo w3 q (P+3)):=H3;have B3:Hid (But q w w3):=(B2.out.later Lu).trans ho.but;clear ho hH;go_simp;refine hK.out _ _ trivial fun hH=>?_;clear hK K
   try simp only [qq]
   refine rq 3 fun K hK=>?_;go_simp;obtain ⟨y,hy⟩:∃ y:World,y=w3.alloc (.cells #[.string ⟨#[32]⟩,.string ⟨#[10]⟩,.string ⟨#[34]⟩,.string ⟨#[92]⟩,.string ⟨#[48]⟩,.string ⟨#[120]⟩,.string ⟨#[58]⟩,.string ⟨#[0]⟩] 9):=⟨_,rfl⟩;rw [<- hy];have by3:Below w3.heap.size w3 y:=by rw [hy];exact bA
   have C3:Hid (Cl y w3.heap.size 9 lit8):=by show Cl _ _ _ _;rw [hy];exact cl_new w3 _ 9
   have H3:=hdI (H3.out.later by3);have B3:=hdI (B3.out.later by3);clear hy hH;refine hK.out _ _ trivial fun hH=>?_;clear hK K
   try simp only [qq]
   generalize w3.heap.size=B at C3 ⊢;clear by3;generalize y=w3 at*;revert mark
   all_goals
    intro _;obtain ⟨z,hz,hzs⟩:=lit_str lit8 1 dc_ h30 (by simpa [lit8] using h31);have cz:=(C3.out.cell r3.toNat).trans hz;have hn:¬9223372036854775807<x1.size+z.size:=om_;have hn2:¬9223372036854775807<x1.size+z.size+x2.size:=om_;refine tq 6 hH ?_
    try simp only [qq]
    refine rq 7 fun K hK=>?_;go_simp;refine hK.out _ _ trivial fun hH=>?_;clear hK K
    try simp only [qq]
    refine tq 8 hH ?_;refine tq 12 hH ?_;refine tq 13 hH ?_
    try simp only [qq]
    refine wpAnyH_done kr_ ?_ _;go_wp2;go_ret;exact ⟨⟨_,rfl,by rw [ByteArray.size_append,ByteArray.size_append];omega⟩,H3.out,B3.out⟩
 · by_cases hlt:i<s.size
   · have hle1:(i:Int)+1<=(s.size:Int):=om_
     go_wp2_with fail
     refine wp_region_held_drew (S:=fun _=>True) kr_ trivial fun hH=>?_;refine tq 0 hH ?_;refine tq 1 hH ?_;refine tq 2 hH ?_
     try simp only [qq]
     refine tq 3 hH ?_;refine tq 4 hH ?_;refine tq 5 hH ?_
     try simp only [qq]
     refine tq 6 hH ?_
     try simp only [qq]
     generalize s.extract 0 i=x1 at e1 ⊢;generalize s.extract (i+1) s.size=x2 at e3 ⊢;have hn:¬9223372036854775807<x1.size+x2.size:=om_;refine tq 7 hH ?_;refine tq 8 hH ?_
     try simp only [qq]
     refine wpAnyH_done kr_ ?_ _;go_wp2;go_ret;exact ⟨⟨_,rfl,by rw [ByteArray.size_append];omega⟩,H2.out.later (Below.refl _ _).drew|>.mono om_,B2.out.later (Below.refl _ _).drew⟩
   go_wp2;go_ret;exact ⟨⟨_,rfl,by rw [ByteArray.size_append];omega⟩,H2.out.mono om_,B2.out⟩
 · by_cases hlt:i<s.size
   · have hle1:(i:Int)+1<=(s.size:Int):=om_
     go_wp2_with fail
     refine wp_region_held_drew (S:=fun _=>True) kr_ trivial fun hH=>?_;obtain ⟨u,hu⟩:∃ u:World,u=w2.drew:=⟨_,rfl⟩;rw [<- hu];have Lu:Below w2.heap.size w2 u:=by rw [hu];exact (Below.refl _ _).drew
     clear hu;refine tq 0 hH ?_;refine tq 1 hH ?_;refine tq 2 hH ?_
     try simp only [qq]
     refine tq 3 hH ?_;refine tq 4 hH ?_;refine tq 5 hH ?_
     try simp only [qq]
     refine tq 6 hH ?_;refine tq 7 hH ?_;refine tq 16 hH ?_
     try simp only [qq]
     refine tq 17 hH ?_;refine tq 18 hH ?_;refine tq 19 hH ?_
     try simp only [qq]
     refine rq 8 fun K hK=>?_;go_simp;refine (pickT u q (P+2) 8 om_ om_ om_ (H2.out.later Lu)).mono ?_;rintro e w3 ⟨⟨r3,rfl,h30,h31⟩,H3,ho⟩;have H3:Hid (RdTo w3 q (P+3)):=H3;have B3:Hid (But q w w3):=(B2.out.later Lu).trans ho.but;clear ho hH;go_simp;refine hK.out _ _ trivial fun hH=>?_;clear hK K
     try simp only [qq]
     generalize s.extract 0 i=x1 at e1 ⊢;generalize s.extract (i+1) s.size=x2 at e3 ⊢;refine tq 9 hH ?_;refine tq 10 hH ?_;refine tq 11 hH ?_;refine tq 12 hH ?_
     try simp only [qq]
     refine rq 13 fun K hK=>?_;go_simp;refine hK.out _ _ trivial fun hH=>?_;clear hK K
     try simp only [qq]
     refine rq 14 fun K hK=>?_;go_simp;rw [conv1];go_simp;refine hK.out _ _ trivial fun hH=>?_;clear hK K
     try simp only [qq]
     generalize hz:strOfNums [_]=z;have hzs:z.size<=1:=by rw [<- hz,son1];exact Nat.le_refl _
     clear hz;have hn:¬9223372036854775807<x1.size+z.size:=om_;have hn2:¬9223372036854775807<x1.size+z.size+x2.size:=om_;refine tq 15 hH ?_;refine tq 20 hH ?_;refine tq 21 hH ?_
     try simp only [qq]
     refine wpAnyH_done kr_ ?_ _;go_wp2;go_ret;exact ⟨⟨_,rfl,by rw [ByteArray.size_append,ByteArray.size_append];omega⟩,H3.out.later bA,B3.out.later bA⟩
   go_wp2;go_ret;exact ⟨⟨_,rfl,by rw [ByteArray.size_append];omega⟩,H2.out.mono om_,B2.out⟩
 go_wp2;go_ret;exact ⟨⟨_,rfl,by rw [ByteArray.size_append];omega⟩,H2.out.mono om_,B2.out⟩
def SR (n:Nat) (xs:List Value):Prop:=xs.length=n*2/\∀ v∈xs,strB 4000 v=true
theorem strB_iff {N:Nat} {v:Value}:strB N v=true↔∃ s:ByteArray,v=.string s/\s.size<=N:=by
 unfold strB;constructor
 · intro h
   split at h
   · rename_i z;exact ⟨z,rfl,by simpa using h⟩
   cases h
 rintro ⟨s,rfl,h⟩;simpa using h
theorem SR.get {n j:Nat} {xs:List Value} (h:SR n xs) (hj:j<n*2):∃ s:ByteArray,xs[j]?=some (.string s)/\s.size<=4000:=by
 have hl:j<xs.length:=by rw [h.1];exact hj
 obtain ⟨s,e,hs⟩:=strB_iff.1 (h.2 _ (List.getElem_mem hl));exact ⟨s,by rw [List.getElem?_eq_getElem hl,e],hs⟩
theorem SR.set {n:Nat} {xs:List Value} (h:SR n xs) (j:Nat) {s:ByteArray} (hs:s.size<=4000):SR n (xs.set j (.string s)):=
 ⟨by rw [List.length_set];exact h.1,fun v hv=>by
  rcases List.mem_or_eq_of_mem_set hv with h1 | h1
  · exact h.2 v h1
  rw [h1];exact strB_iff.2 ⟨s,rfl,hs⟩⟩
theorem SR.app {n:Nat} {xs:List Value} (h:SR n xs) {a b:ByteArray} (ha:a.size<=4000) (hb:b.size<=4000):SR (n+1) (xs++[.string a,.string b]):=
 ⟨by have:=h.1;simp;omega,fun v hv=>by
  rcases List.mem_append.1 hv with h1 | h1
  · exact h.2 v h1
  simp at h1;rcases h1 with rfl | rfl
  · exact strB_iff.2 ⟨_,rfl,ha⟩
  exact strB_iff.2 ⟨_,rfl,hb⟩⟩
theorem SR.fi:∀ {n:Nat} {xs:List Value},SR n xs->∃ gs:List F2,gs.length=n/\xs=fiC gs/\∀ x∈gs,x.le 4000
 | 0,xs,h=>⟨[],rfl,by simpa [fiC] using h.1,fun x h=>nomatch h⟩
 | n+1,[],h=>by simp [SR] at h
 | n+1,[_],h=>by have:=h.1;simp at this;omega
 | n+1,x::y::r,h=>by
  obtain ⟨a,rfl,ha⟩:=strB_iff.1 (h.2 x sm_);obtain ⟨b,rfl,hb⟩:=strB_iff.1 (h.2 y sm_);obtain ⟨gs,h1,h2,h3⟩:=SR.fi (n:=n) (xs:=r) ⟨by have:=h.1;simp at this;omega,fun v hv=>h.2 v (by simp [hv])⟩;exact ⟨⟨a,b⟩::gs,by simp [h1],by rw [h2];rfl,fun x hx=>by rcases List.mem_cons.1 hx with rfl | hx;exact ⟨ha,hb⟩;exact h3 x hx⟩
theorem own_setNe {w:World} {base X j:Nat} {e:TypeId} {size:Nat} {v y:Value} {n:Nat} {xs:List Value} (h:w.ownsRow base e size v n xs) (hv:v.ownBlock≠some X):(w.setCell ⟨X,j,none⟩ y).ownsRow base e size v n xs:=by
 refine ⟨h.1,h.2.imp id ?_⟩;rintro ⟨g,cap,cur,h1,h2,h3,h4⟩;exact ⟨g,cap,cur,h1,h2,(Below.heap_setCell _ _ _ _ (fun e=>hv (by rw [h1];exact congrArg some e))).trans h3,h4⟩
structure Sp (q P:Nat) (w:World) (X n:Nat) (v:Value) (xs:List Value) (u:World):Prop where
 rd:RdTo u q P
 bu:But q w u
 qw:q<w.heap.size
 h1:Cl u (w.heap.size+1) 51 [.slice none 0 0]
 h2:Cl u X 51 [v]
 hX:w.heap.size+2<=X
 ho:u.ownsRow (w.heap.size+2) 123 2 v n xs
 sr:SR n xs
variable {q P P' X n:Nat} {w u u':World} {v v':Value} {xs:List Value}
theorem Sp.call (h:Sp q P w X n v xs u) (hr:RdTo u' q P') (hb:But q u u'):Sp q P' w X n v xs u':=by
 have:=h.qw;have:=h.hX;exact ⟨hr,h.bu.trans hb,h.qw,(hb.block _ h.h1.lt om_).trans h.h1,(hb.block _ h.h2.lt om_).trans h.h2,h.hX,own_but h.ho hb om_,h.sr⟩
theorem Sp.later (h:Sp q P w X n v xs u) (hb:Below u.heap.size u u'):Sp q P w X n v xs u':=h.call (h.rd.later hb) (But.of_below hb)
theorem row_of {w:World} {base:Nat} {e:TypeId} {size n:Nat} {v:Value} {xs:List Value} (h:w.ownsRow base e size v n xs) {k:Nat} (hk:v.ownBlock=some k):∃ cur,w.heap[k]?=some (.cells cur e (0,0)):=by
 rcases h.2 with ⟨rfl,_⟩ | ⟨g,cap,cur,rfl,_,hg,_⟩
 · cases hk
 obtain rfl:=Option.some.inj hk;exact ⟨cur,hg⟩
theorem Sp.ne (h:Sp q P w X n v xs u) {k:Nat} (hk:v.ownBlock=some k):k≠X/\k≠w.heap.size+1/\w.heap.size+2<=k:=by
 obtain ⟨cur,hc⟩:=row_of h.ho hk;refine ⟨fun e=>?_,fun e=>?_,(h.ho.lt k hk).1⟩
 · subst e;have:=hc.symm.trans h.h2;cases this
 · subst e;have:=hc.symm.trans h.h1;cases this
theorem Sp.gr (h:Sp q P w X n v xs u) (hg:u.grownBy u' v.ownBlock) {m:Nat} {ys:List Value} (hr:u'.ownsRow (w.heap.size+2) 123 2 v' m ys) (hs:SR m ys):RdTo u' q P/\But q w u'/\Cl u' (w.heap.size+1) 51 [.slice none 0 0]/\Cl u' X 51 [v]:=by
 have hb:=gr_bW (Below.refl (w.heap.size+2) u) hg (by have:=h.h2.lt;have:=h.hX;omega) (fun k e=>(h.ne e).2.2);have:=h.qw;refine ⟨h.rd.laterB hb om_,h.bu.laterB hb om_,h.h1.below hb om_,(hg.block X h.h2.lt (fun e=>?_)).trans h.h2⟩;exact (h.ne e.symm).1 rfl
theorem Sp.put (h:Sp q P w X n v xs u) (hg:u.grownBy u' v.ownBlock) {m:Nat} {ys:List Value} (hr:u'.ownsRow (w.heap.size+2) 123 2 v' m ys) (hs:SR m ys) (hne:∀ k,v'.ownBlock=some k->k≠X):Sp q P w X m v' ys (u'.setCell ⟨X,0,none⟩ v'):=by
 obtain ⟨k1,k2,k3,k4⟩:=h.gr hg hr hs;have:=h.qw;have:=h.hX;exact ⟨rd_set1 k1 om_ _ _,but_set1 k2 om_ _ _,h.qw,k3.on (on_set _ _ _ _) om_,k4.set 0 v',h.hX,own_setNe hr (fun e=>hne X e rfl),hs⟩
theorem Sp.fin (h:Sp q P w X n v xs u) (hn:n<=60):RdTo (u.setCell ⟨w.heap.size+1,0,none⟩ v) q P/\But q w (u.setCell ⟨w.heap.size+1,0,none⟩ v)/\TrB 60 (u.setCell ⟨w.heap.size+1,0,none⟩ v) v/\∀ k,v.ownBlock=some k->w.heap.size<=k:=by
 obtain ⟨gs,rfl,rfl,hg⟩:=h.sr.fi;have:=h.qw;exact ⟨rd_set1 h.rd om_ _ _,but_set1 h.bu om_ _ _,row_trv (own_setNe h.ho (fun e=>(h.ne e).2.1 rfl)) hn hg,fun k e=>by have:=(h.ne e).2.2;omega⟩
end Go.Proofs.YthjhakdpikdoeaaGreatDoor
namespace Go.Proofs.YthjhakdpikdoeaaGreatDoor
open Proofs.Tryz
open Go.RowKit
open G.T (F2 f2z FilesAt files_some)
theorem by2 (w:World) (a b:Obj):Below w.heap.size w ((w.alloc a).alloc b):=bA.alloc sm_ _
def lit12:List Value:=[.string ⟨#[97]⟩,.string ⟨#[98]⟩,.string ⟨#[99]⟩,.string ⟨#[97]⟩,.string ⟨#[120,52]⟩,.string ⟨#[99]⟩,.string ⟨#[120,48]⟩,.string ⟨#[120,49]⟩,.string ⟨#[120,50]⟩,.string ⟨#[120,51]⟩,.string ⟨#[103,111,110,101]⟩,.string ⟨#[112,108,97,110]⟩]
theorem c81 (q P:Nat) (w:World) (hp:P<=90000) (hr:RdTo w q P):
 Calls prog 81 #[.pointer (some ⟨q,0,none⟩)] w fun e w'=>(∃ x:ByteArray,e=.returned (.string x)/\x.size<=20)/\RdTo w' q (P+2)/\But q w w':=by
 have HR:=hdI hr;have hq:=hr.lt;clear hr;go_enter func81,ntmps81
 go_wp2_with fail
 obtain ⟨y0,hy⟩:∃ y:World,y=w.alloc (.cells lit12.toArray 9):=⟨_,rfl⟩;change Code.wp _ _ _ _ (w.alloc (.cells lit12.toArray 9));rw [<- hy];have b0:Below w.heap.size w y0:=by rw [hy];exact bA
 have C0:Hid (Cl y0 w.heap.size 9 lit12):=by show Cl _ _ _ _;rw [hy];exact cl_new w _ 9
 clear hy;refine wp_region_held_drew (S:=fun u=>Cl u w.heap.size 9 lit12) kr_ C0.out fun hH=>?_;obtain ⟨y1,hy⟩:∃ y:World,y=y0.drew:=⟨_,rfl⟩;rw [<- hy] at hH ⊢;have b1:Below w.heap.size w y1:=by rw [hy];exact b0.drew
 clear hy b0 C0;refine tq 0 hH ?_;refine tq 1 hH ?_;refine tq 6 hH ?_;refine tq 7 hH ?_
 try simp only [qq]
 refine rq 2 fun K hK=>?_;go_simp;refine (pickT y1 q P 12 om_ om_ om_ (HR.out.later b1)).mono ?_;rintro e y2 ⟨⟨r1,rfl,r10,r11⟩,H2,ho⟩;have H2:=hdI H2;have B2:Hid (But q w y2):=(But.of_below b1).trans ho.but;have C2:Cl y2 w.heap.size 9 lit12:=(ho.block _ om_).trans hH;clear ho hH;go_simp;refine hK.out _ _ C2 fun hH=>?_;clear hK K
 try simp only [qq]
 obtain ⟨z1,hz1,hs1⟩:=lit_str lit12 4 dc_ r10 r11;refine tq 3 hH ?_
 try simp only [qq]
 refine tq 4 hH ?_ (v:=?_) (hv:=?e)
 case e=>intro wq hSw;have d:=(hSw.cell r1.toNat).trans hz1;go_simp;try with_reducible rfl
 have hn1:¬9223372036854775807<z1.size+1:=om_
 try simp only [qq]
 refine tq 5 hH ?_
 try simp only [qq]
 refine rq 8 fun K hK=>?_;go_simp;refine (pickT y2 q (P+1) 12 om_ om_ om_ H2.out).mono ?_;rintro e y3 ⟨⟨r2,rfl,r20,r21⟩,H3,ho⟩;have H3:=hdI H3;have B3:=hdI (B2.out.trans ho.but);have C3:Cl y3 w.heap.size 9 lit12:=(ho.block _ om_).trans hH;clear ho hH;go_simp;refine hK.out _ _ C3 fun hH=>?_;clear hK K
 try simp only [qq]
 obtain ⟨z2,hz2,hs2⟩:=lit_str lit12 4 dc_ r20 r21;generalize hZ:(z1++⟨#[10]⟩:ByteArray)=Z;have hZs:Z.size<=5:=by rw [<- hZ,ByteArray.size_append];have:ByteArray.size ⟨#[10]⟩=1:=rfl;omega
 clear hZ;refine tq 9 hH ?_
 try simp only [qq]
 refine tq 10 hH ?_ (v:=?_) (hv:=?e)
 case e=>intro wq hSw;have d:=(hSw.cell r2.toNat).trans hz2;go_simp;try with_reducible rfl
 have hn2:¬9223372036854775807<Z.size+z2.size:=om_
 try simp only [qq]
 refine tq 11 hH ?_;refine tq 12 hH ?_
 try simp only [qq]
 refine wpAnyH_done kr_ ?_ _;go_wp2;go_ret;exact ⟨⟨_,rfl,by rw [ByteArray.size_append];omega⟩,H3.out,B3.out⟩
end Go.Proofs.YthjhakdpikdoeaaGreatDoor
