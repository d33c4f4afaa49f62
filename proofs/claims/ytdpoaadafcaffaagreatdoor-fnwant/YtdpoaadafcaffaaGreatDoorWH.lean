import Derived.Test.YtdpoaadafcaffaaGreatDoorWF
set_option linter.unusedVariables false
set_option maxHeartbeats 8000000
set_option maxRecDepth 100000
namespace Go.Proofs.YtdpoaadafcaffaaGreatDoor
open Proofs.Tryz
open Go.RowKit
open G.T (F2 L6 U3 U7)
def di (B:Nat) (w:World) (v:Value):Prop:=∃ a cap fs,v=.slice a fs.length cap/\U3 w a fs/\fs.length<=B/\∀ x∈fs,x.le 4000
theorem ZA {fs:List F2} (h:∀ x∈fs,x.le 4000) (i:Nat):(fs.getD i L6).le 4000:=by
 rcases Nat.lt_or_ge i fs.length with hi | hi
 · rw [show fs.getD i L6=fs[i] from by simp [List.getD,hi]];exact h _ (List.getElem_mem hi)
 rw [show fs.getD i L6=L6 from by simp [List.getD,hi]];exact ⟨J3,J3⟩
theorem di.below {B:Nat} {w w':World} {v:Value} (h:di B w v) (hb:Below w.heap.size w w'):di B w' v:=by
 obtain ⟨a,cap,fs,h1,h2,h3⟩:=h;exact ⟨a,cap,fs,h1,G.T.X0 h2 hb,h3⟩
theorem di.but {B q:Nat} {w w':World} {v:Value} (h:di B w v) (hb:But q w w') (hk:∀ k,v.ownBlock=some k->k≠q):di B w' v:=by
 obtain ⟨a,cap,fs,rfl,h2,h3⟩:=h;refine ⟨a,cap,fs,rfl,?_,h3⟩;rcases h2 with h2 | ⟨b,off,rfl,e2,e3⟩
 · exact .inl h2
 have:=hk b rfl;exact .inr ⟨b,off,rfl,Nat.lt_of_lt_of_le e2 hb.size,fun i hi=>by rw [hb.cell e2 this,hb.cell e2 this];exact e3 i hi⟩
theorem Cs (fs:List F2) (k:Nat) (h:k<fs.length):(Xd fs)[k*2+1]?=some (.string (fs.getD k L6).tx):=by
 induction fs generalizing k with
 | nil=>cases h
 | cons x r ih=>
  cases k with
  | zero=>simp [Xd]
  | succ k=>
   have:=ih k (by simpa using h);rw [Nat.succ_mul];simpa [Xd] using this
theorem Mw {w:World} {base:Nat} {a:Option Addr} {c:Nat} {gs:List F2} (h:w.ownsRow base 75 2 (.slice a gs.length c) gs.length (Xd gs)):U3 w a gs:=by
 rcases h.2 with ⟨h1,h2⟩ | ⟨g,cp,cur,h1,hb,hg,hnc,hcm,hcs,htk⟩
 · exact .inl (List.length_eq_zero_iff.1 h2)
 injection h1 with h1 _ _;have k:∀ j x,(Xd gs)[j]?=some x->w.cell? ⟨g,0+j,none⟩=some x:=fun j x e=>by
  rw [<- htk,List.getElem?_take] at e;split at e
  · rw [Lib.cell_of_heap hg,Nat.zero_add,<- e];simp
  cases e
 refine .inr ⟨g,0,h1,(Array.getElem?_eq_some_iff.1 hg).1,fun i hi=>⟨k _ _ (mq gs i hi),?_⟩⟩;rw [Nat.add_assoc];exact k _ _ (Cs gs i hi)
theorem Vu {B:Nat} {w:World} {base:Nat} {v:Value} {gs:List F2} (h:w.ownsRow base 75 2 v gs.length (Xd gs)) (hl:gs.length<=B) (hs:∀ x∈gs,x.le 4000):di B w v:=by
 obtain ⟨a,c,rfl⟩:=Lb h;exact ⟨a,c,gs,rfl,Mw h,hl,hs⟩
theorem VG {w:World} {X j:Nat} {n c:Nat} {b:Option Addr} {s:ByteArray} (hX:Cl w X 25 [.slice b n c]) {B off:Nat} (h:w.cell? ⟨B,off,none⟩=some (.string s)):B≠X:=fun e=>by
 subst e;rw [hX.cell] at h;rcases off with _ | off <;> simp at h
theorem Ci {A:Nat} {w:World} {x y:Value} {X n c:Nat} {b:Option Addr} (h:di A w x) (hX:Cl w X 25 [.slice b n c]):di A (w.setCell ⟨X,0,none⟩ y) x:=by
 obtain ⟨a,cap,fs,h1,h2,h3⟩:=h;refine ⟨a,cap,fs,h1,?_,h3⟩;rcases h2 with h2 | ⟨B,off,e1,e2,e3⟩
 · exact .inl h2
 refine .inr ⟨B,off,e1,by simpa using e2,fun i hi=>?_⟩;obtain ⟨k1,k2⟩:=e3 i hi;have hne:=VG hX (j:=0) k1;exact ⟨(World.cell?_setCell_other _ _ _ _ U0).trans k1,(World.cell?_setCell_other _ _ _ _ U0).trans k2⟩
theorem RG (v:Value) (nm tx:ByteArray) (w:World) (h:di 40 w v) (hn:nm.size<=4000) (ht:tx.size<=4000):
 Calls prog 56 #[.agg #[v],.string nm,.string tx] w fun e w'=>(∃ v',e=.returned (.agg #[v'])/\di 40 w' v'/\(v'=v\/∀ k,v'.ownBlock=some k->w.heap.size<=k))/\Below w.heap.size w w':=by
 obtain ⟨a,cap,fs,rfl,hat,hl,hs⟩:=h;have HAT:=J5 hat;have HS:=J5 hs;clear hat hs;go_enter func56,ntmps56
 go_wp2_with fail
 obtain ⟨W,hW⟩:∃ W:World,W=(w.alloc (.cells #[.slice a fs.length cap] 25)).alloc (.cells #[.slice none 0 0] 25):=⟨_,rfl⟩;rw [<- hW];have b0:Below w.heap.size w W:=by rw [hW];exact bA.alloc U0 _
 have C0:Hid (Cl W w.heap.size 25 [.slice a fs.length cap]):=by show Cl _ _ _ _;rw [hW];exact B_ (F3 w [_] 25) _
 have C1:Hid (Cl W (w.heap.size+1) 25 [.slice none 0 0]):=by show Cl _ _ _ _;rw [hW];exact qg (xs:=[_]) U0
 clear hW;refine (uL a cap fs ⟨nm,tx⟩ W O0 (ZA HS.out) ⟨hn,ht⟩ (G.T.X0 HAT.out b0)).mono ?_;rintro e w1 ⟨⟨v',c,gs,rfl,hr,hgl,hg⟩,hb1⟩;have T1:=Q0 (Vu hr O0 (fun y hy=>by rcases hg y hy with h | h;exact HS.out y h;rw [h];exact ⟨hn,ht⟩));have T0:Hid (di 40 w1 (.slice a fs.length cap)):=⟨a,cap,fs,rfl,G.T.X0 (G.T.X0 HAT.out b0) hb1,hl,HS.out⟩;have B1:=J5 (bT b0 hb1);have C0:=J5 (C0.out.below hb1 C0.out.lt);have C1:=J5 (C1.out.below hb1 C1.out.lt);obtain ⟨va,vc,rfl⟩:=Lb hr;have KN:Hid (∀ k,(Value.slice va gs.length vc).ownBlock=some k->w.heap.size<=k):=fun k e=>Nat.le_trans b0.size (hr.lt k e).1;clear hr hg hb1 b0 HAT;have d0:=C0.out.cell 0;have d1:=C1.out.cell 0;have f1:=C1.out.opn 0;have hz:=C1.out.lt;dsimp only [List.getElem?_cons_zero] at d0 d1;have hz0:=C0.out.lt;have fin:∀ (u:World) (x:Value) (tm:Array Value),tm[6]?=some (.pointer (some ⟨w.heap.size+1,0,none⟩))->u.cell? ⟨w.heap.size+1,0,none⟩=some x->di 40 u x->(x=.slice a fs.length cap\/∀ k,x.ownBlock=some k->w.heap.size<=k)->Below w.heap.size w u->bodyPost prog f56 (fun e w'=>(∃ v',e=.returned (.agg #[v'])/\di 40 w' v'/\(v'=.slice a fs.length cap\/∀ k,v'.ownBlock=some k->w.heap.size<=k))/\Below w.heap.size w w') .ret ⟨tm,[]⟩ u:=fun u x tm h6 hu ht hk hb=>bodyPost_ret (v:=.agg #[x]) (by simp [results,Tryz.results56,go_sem,hu,h6]) rfl ⟨⟨x,rfl,ht,hk⟩,hb⟩;have tp:∀ (x:Value) (o:Obj),di 40 w1 x->di 40 ((w1.setCell ⟨w.heap.size+1,0,none⟩ x).alloc o) x:=fun x o h=>(Ci h C1.out).below bA;by_cases hc:c=0
 · subst hc
   go_wp2;exact fin _ _ _ rfl ((World.cell?_alloc_lt _ _ _ X3).trans (World.cell?_setCell_same _ _ _ d1)) (tp _ _ T1.out) (.inr KN.out) ((B1.out.setCell (by show _<=w.heap.size+1;omega) _).alloc X3 _)
 have hcb:(c !=0)=true:=by simpa using hc
 go_wp2;exact fin _ _ _ rfl ((World.cell?_alloc_lt _ _ _ X3).trans (World.cell?_setCell_same _ _ _ d1)) (tp _ _ T0.out) (.inl rfl) ((B1.out.setCell (by show _<=w.heap.size+1;omega) _).alloc X3 _)
theorem lu (s:ByteArray) (a b:Nat):(s.extract a b).size<=s.size:=by rw [ByteArray.size_extract];omega
def aA:List Value:=[.string ⟨#[32]⟩,.string ⟨#[10]⟩,.string ⟨#[34]⟩,.string ⟨#[92]⟩,.string ⟨#[48]⟩,.string ⟨#[120]⟩,.string ⟨#[58]⟩,.string ⟨#[0]⟩]
def Fp (N:Nat) (v:Value):Bool:=match v with | .string z=>decide (z.size<=N) | _=>false
theorem yf (l:List Value) (N:Nat) (h:l.all (Fp N)=true) {r:Int} (h0:0<=r) (h1:r<(l.length:Int)):∃ z:ByteArray,l[r.toNat]?=some (.string z)/\z.size<=N:=by
 have hl:r.toNat<l.length:=O0;have hm:=List.all_eq_true.1 h _ (List.getElem_mem hl);unfold Fp at hm;split at hm
 · rename_i z hz
   exact ⟨z,by rw [List.getElem?_eq_getElem hl,hz],by simpa using hm⟩
 cases hm
theorem WI (y:Int):(strOfNums [y]).size=1:=rfl
theorem VC {r:Int} {n:Nat} (h0:0<=r) (h1:r<256) (hn:n<=1000):∃ i:Nat,wrap64 ((wrap64 (r*((n:Int)+1))).tdiv 256)=(i:Int)/\i<=n:=by
 have h2:0<=r*((n:Int)+1):=Int.mul_nonneg h0 O0;have h3:r*((n:Int)+1)<=255*((n:Int)+1):=Int.mul_le_mul_of_nonneg_right O0 O0;generalize r*((n:Int)+1)=m at*;have e1:wrap64 m=m:=by unfold wrap64;omega
 rw [e1,Int.tdiv_eq_ediv_of_nonneg h2];have e2:wrap64 (m / 256)=m / 256:=by unfold wrap64;omega
 exact ⟨(m / 256).toNat,by rw [e2];omega,O0⟩
theorem c64 (q P:Nat) (s:ByteArray) (w:World) (hp:P<=100000) (hs:s.size<=1000) (hr:o8 w q P):
 Calls prog 64 #[.pointer (some ⟨q,0,none⟩),.string s] w fun e w'=>(∃ x:ByteArray,e=.returned (.string x)/\x.size<=2010)/\o8 w' q (P+3)/\But q w w':=by
 have HR:=Q0 hr;clear hr;go_enter func64,ntmps64
 go_wp2_with fail
 refine (K6 w q P 256 O0 O0 O0 HR.out).mono ?_;rintro e w1 ⟨⟨r,rfl,h0,h1⟩,H1,ho⟩;have H1:=Q0 H1;have B1:=Q0 ho.but;clear ho HR;obtain ⟨i,hE,hi⟩:=VC (n:=s.size) h0 h1 hs
 go_wp2_with fail
 refine (K6 w1 q (P+1) 5 O0 O0 O0 H1.out).mono ?_;rintro e w2 ⟨⟨r2,rfl,h20,h21⟩,H2,ho⟩;have H2:=Q0 H2;have B2:=Q0 (B1.out.trans ho.but);clear ho H1 B1;rw [hE];generalize wrap64 (r*((s.size:Int)+1))=mm at*;clear hE h0 h1;have e1:=lu s 0 i;have e2:=lu s i s.size;have e3:=lu s (i+1) s.size;have hw1:IntKind.i64.wrap ((i:Int)+1)=(i:Int)+1:=by simp [IntKind.wrap,IntKind.signed,IntKind.bits];omega
 have h01:0<=(i:Int)+1:=O0;have mark:=trivial;obtain rfl | rfl | rfl | rfl | rfl:r2=0\/r2=1\/r2=2\/r2=3\/r2=4:=O0
 · go_wp2
   go_ret;exact ⟨⟨_,rfl,O0⟩,H2.out.mono O0,B2.out⟩
 · go_wp2_with fail
   refine wp_region_held_drew (S:=fun _=>True) I1 trivial fun hH=>?_;obtain ⟨u,hu⟩:∃ u:World,u=w2.drew:=⟨_,rfl⟩;rw [<- hu];have Lu:Below w2.heap.size w2 u:=by rw [hu];exact (Below.refl _ _).drew
   clear hu;refine tq 0 hH ?_;refine tq 1 hH ?_;refine tq 2 hH ?_
   try simp only [qq]
   refine tq 4 hH ?_;refine tq 9 hH ?_;refine tq 10 hH ?_
   try simp only [qq]
   refine tq 11 hH ?_
   try simp only [qq]
   refine wpAnyH_ready (rs:=[3,5]) I1 U0 (AllReadyH.cons (o:=⟨some 25,_,73,_,_,none⟩) rfl (fun K hK=>?_) (AllReadyH.cons (o:=⟨some 27,.call ⟨.value (.func 31),#[.tmp 26,.const (.int .i64 8)],#[47,3]⟩,3,_,_,none⟩) rfl (fun K hK=>?_) AllReadyH.nil))
   all_goals generalize s.extract 0 i=x1 at e1 ⊢
   all_goals generalize s.extract i s.size=x2 at e2 ⊢
   go_simp;obtain ⟨y,hy⟩:∃ y:World,y=u.alloc (.cells #[.string ⟨#[32]⟩,.string ⟨#[10]⟩,.string ⟨#[34]⟩,.string ⟨#[92]⟩,.string ⟨#[48]⟩,.string ⟨#[120]⟩,.string ⟨#[58]⟩,.string ⟨#[0]⟩] 9):=⟨_,rfl⟩;rw [<- hy];have Ly:Below w2.heap.size w2 y:=by rw [hy];exact Lu.alloc Lu.size _
   have Cy:Hid (Cl y u.heap.size 9 aA):=by show Cl _ _ _ _;rw [hy];exact F3 u _ 9
   have hqy:=(H2.out.later Lu).lt;clear hy hH;refine hK.out _ _ trivial fun hH=>?_;clear hK K
   try simp only [qq]
   refine rq 5 fun K hK=>?_;go_simp;refine (K6 y q (P+2) 8 O0 O0 O0 (H2.out.later Ly)).mono ?_;rintro e w3 ⟨⟨r3,rfl,h30,h31⟩,H3,ho⟩;have H3:=Q0 H3;have B3:=Q0 ((B2.out.later Ly).trans ho.but);have C3:Hid (Cl w3 u.heap.size 9 aA):=(ho.block _ O0).trans Cy.out;clear ho hH;go_simp;refine hK.out _ _ trivial fun hH=>?_;clear hK K
   try simp only [qq]
   generalize u.heap.size=B at C3 ⊢;revert mark;rotate_left;go_simp;refine (K6 u q (P+2) 8 O0 O0 O0 (H2.out.later Lu)).mono ?_;rintro e w3 ⟨⟨r3,rfl,h30,h31⟩,H3,ho⟩;have H3:=Q0 H3;have B3:=Q0 ((B2.out.later Lu).trans ho.but);clear ho hH;go_simp;refine hK.out _ _ trivial fun hH=>?_;clear hK K
   try simp only [qq]
   refine rq 3 fun K hK=>?_;go_simp;obtain ⟨y,hy⟩:∃ y:World,y=w3.alloc (.cells #[.string ⟨#[32]⟩,.string ⟨#[10]⟩,.string ⟨#[34]⟩,.string ⟨#[92]⟩,.string ⟨#[48]⟩,.string ⟨#[120]⟩,.string ⟨#[58]⟩,.string ⟨#[0]⟩] 9):=⟨_,rfl⟩;rw [<- hy];have eZ:Below w3.heap.size w3 y:=by rw [hy];exact bA
   have C3:Hid (Cl y w3.heap.size 9 aA):=by show Cl _ _ _ _;rw [hy];exact F3 w3 _ 9
   have H3:=J5 (H3.out.later eZ);have B3:=J5 (B3.out.later eZ);clear hy hH;refine hK.out _ _ trivial fun hH=>?_;clear hK K
   try simp only [qq]
   generalize w3.heap.size=B at C3 ⊢;clear eZ;generalize y=w3 at*;revert mark
   all_goals
    intro _;obtain ⟨z,hz,hzs⟩:=yf aA 1 J3 h30 (by simpa [aA] using h31);have cz:=(C3.out.cell r3.toNat).trans hz;have hn:¬9223372036854775807<x1.size+z.size:=O0;have hn2:¬9223372036854775807<x1.size+z.size+x2.size:=O0;refine tq 6 hH ?_
    try simp only [qq]
    refine rq 7 fun K hK=>?_;go_simp;refine hK.out _ _ trivial fun hH=>?_;clear hK K
    try simp only [qq]
    refine tq 8 hH ?_;refine tq 12 hH ?_;refine tq 13 hH ?_
    try simp only [qq]
    refine wpAnyH_done I1 ?_ _;go_wp2;go_ret;exact ⟨⟨_,rfl,by rw [ByteArray.size_append,ByteArray.size_append];omega⟩,H3.out,B3.out⟩
 · by_cases hlt:i<s.size
   · have hle1:(i:Int)+1<=(s.size:Int):=O0
     go_wp2_with fail
     refine wp_region_held_drew (S:=fun _=>True) I1 trivial fun hH=>?_;refine tq 0 hH ?_;refine tq 1 hH ?_;refine tq 2 hH ?_
     try simp only [qq]
     refine tq 3 hH ?_;refine tq 4 hH ?_;refine tq 5 hH ?_
     try simp only [qq]
     refine tq 6 hH ?_
     try simp only [qq]
     generalize s.extract 0 i=x1 at e1 ⊢;generalize s.extract (i+1) s.size=x2 at e3 ⊢;have hn:¬9223372036854775807<x1.size+x2.size:=O0;refine tq 7 hH ?_;refine tq 8 hH ?_
     try simp only [qq]
     refine wpAnyH_done I1 ?_ _;go_wp2;go_ret;exact ⟨⟨_,rfl,by rw [ByteArray.size_append];omega⟩,H2.out.later (Below.refl _ _).drew|>.mono O0,B2.out.later (Below.refl _ _).drew⟩
   go_wp2;go_ret;exact ⟨⟨_,rfl,by rw [ByteArray.size_append];omega⟩,H2.out.mono O0,B2.out⟩
 · by_cases hlt:i<s.size
   · have hle1:(i:Int)+1<=(s.size:Int):=O0
     go_wp2_with fail
     refine wp_region_held_drew (S:=fun _=>True) I1 trivial fun hH=>?_;obtain ⟨u,hu⟩:∃ u:World,u=w2.drew:=⟨_,rfl⟩;rw [<- hu];have Lu:Below w2.heap.size w2 u:=by rw [hu];exact (Below.refl _ _).drew
     clear hu;refine tq 0 hH ?_;refine tq 1 hH ?_;refine tq 2 hH ?_
     try simp only [qq]
     refine tq 3 hH ?_;refine tq 4 hH ?_;refine tq 5 hH ?_
     try simp only [qq]
     refine tq 6 hH ?_;refine tq 7 hH ?_;refine tq 16 hH ?_
     try simp only [qq]
     refine tq 17 hH ?_;refine tq 18 hH ?_;refine tq 19 hH ?_
     try simp only [qq]
     refine rq 8 fun K hK=>?_;go_simp;refine (K6 u q (P+2) 8 O0 O0 O0 (H2.out.later Lu)).mono ?_;rintro e w3 ⟨⟨r3,rfl,h30,h31⟩,H3,ho⟩;have H3:=Q0 H3;have B3:=Q0 ((B2.out.later Lu).trans ho.but);clear ho hH;go_simp;refine hK.out _ _ trivial fun hH=>?_;clear hK K
     try simp only [qq]
     generalize s.extract 0 i=x1 at e1 ⊢;generalize s.extract (i+1) s.size=x2 at e3 ⊢;refine tq 9 hH ?_;refine tq 10 hH ?_;refine tq 11 hH ?_;refine tq 12 hH ?_
     try simp only [qq]
     refine rq 13 fun K hK=>?_;go_simp;refine hK.out _ _ trivial fun hH=>?_;clear hK K
     try simp only [qq]
     refine rq 14 fun K hK=>?_;go_simp;rw [Hr];go_simp;refine hK.out _ _ trivial fun hH=>?_;clear hK K
     try simp only [qq]
     generalize hz:strOfNums [_]=z;have hzs:z.size<=1:=by rw [<- hz,WI];exact Nat.le_refl _
     clear hz;have hn:¬9223372036854775807<x1.size+z.size:=O0;have hn2:¬9223372036854775807<x1.size+z.size+x2.size:=O0;refine tq 15 hH ?_;refine tq 20 hH ?_;refine tq 21 hH ?_
     try simp only [qq]
     refine wpAnyH_done I1 ?_ _;go_wp2;go_ret;exact ⟨⟨_,rfl,by rw [ByteArray.size_append,ByteArray.size_append];omega⟩,H3.out.later bA,B3.out.later bA⟩
   go_wp2;go_ret;exact ⟨⟨_,rfl,by rw [ByteArray.size_append];omega⟩,H2.out.mono O0,B2.out⟩
 go_wp2;go_ret;exact ⟨⟨_,rfl,by rw [ByteArray.size_append];omega⟩,H2.out.mono O0,B2.out⟩
end Go.Proofs.YtdpoaadafcaffaaGreatDoor
