import Derived.Test.YtdjaajjndfbpmaaGreatDoorZ15
set_option linter.unusedVariables false
set_option maxHeartbeats 8000000
set_option maxRecDepth 100000
namespace Go.Proofs.YtdjaajjndfbpmaaGreatDoor
open Proofs.Tryz
open Go.RowKit
variable {X b base k n q size:Nat} {w w' w1 wq:World} {v:Value} {S l rest t:List UInt8} {e:TypeId} {xs:List Value} {o to:Int} {is:List I3} {tx:ByteArray}
structure But (b:Nat) (w w':World):Prop where
 os:w'.os=w.os
 tape:w'.tape=w.tape
 output:w'.output=w.output
 size:w.heap.size<=w'.heap.size
 block:∀ k,k<w.heap.size->k≠b->w'.heap[k]?=w.heap[k]?
theorem But.refl (b:Nat) (w:World):But b w w:=⟨rfl,rfl,rfl,Q6 _,fun _ _ _=>rfl⟩
theorem But.trans {u v:World} (h:But b u v) (k:But b v w):But b u w:=
 ⟨k.os.trans h.os,k.tape.trans h.tape,k.output.trans h.output,Z4 h.size k.size,fun i c a=>(k.block i (D7 c h.size) a).trans (h.block i c a)⟩
theorem But.of_below (h:Below w.heap.size w w'):But b w w':=⟨h.os,h.tape,h.output,h.size,fun k a _=>h.block k a⟩
theorem But.below {B:Nat} (h:But b w w') (hB:B<=b) (hz:B<=w.heap.size):Below B w w':=⟨h.os,h.tape,h.output,h.size,fun k hk=>h.block k O0 O0⟩
theorem But.setCell (h:But b w w') (j:Nat) (v:Value):But b w (w'.setCell ⟨b,j,none⟩ v):=by
 have k:=(F4 b w').setCell (p:=⟨b,j,none⟩) P9 v;refine ⟨k.os.trans h.os,k.tape.trans h.tape,k.output.trans h.output,Z4 h.size k.size,fun i c a=>?_⟩;rw [<- h.block i c a];exact Xq _ _ _ _ a
theorem But.cell (h:But b w w') {p:Addr} (a:p.block<w.heap.size) (c:p.block≠b):w'.cell? p=w.cell? p:=by
 unfold World.cell?;rw [h.block p.block a c]
theorem KI:∀ n:Fin 16,hx (Cb.getD n.val 0)=(n.val:Int):=K3
theorem Bu (n:Nat) (h:n<16):hx (Cb.getD n 0)=n:=KI ⟨n,h⟩
theorem jm (b:UInt8):-1<=hx b/\hx b<=15:=by
 unfold hx
 (repeat' split) <;> omega
def Gq (S t:List UInt8) (k:Nat):Prop:=∀ l,S=V4 l->∃ r,l=t++r/\S.drop k=r.flatMap qb++[34]
theorem mD (S:List UInt8):Gq S [] 1:=fun l h=>⟨l,rfl,by rw [h];rfl⟩
theorem OH (h:Gq S t k) (hk:S.length<=k+1) (l:List UInt8) (e:S=V4 l):t=l:=by
 obtain ⟨r,h1,h2⟩:=h l e
 cases r with
 | nil=>simpa using h1.symm
 | cons c r=>
  have hq:1<=(qb c).length:=iq.2 (rC c);have:=V3 List.length h2;simp only [Yn,Qe,Q7,u_,Mi] at this;omega
theorem uN {a b:UInt8} (h:Gq S t k) (d:S.drop k=92::a::b::rest):Gq S (t++[UInt8.ofNat (16*hx a+hx b).toNat]) (k+3):=by
 intro l e;obtain ⟨r,h1,h2⟩:=h l e
 cases r with
 | nil=>rw [d] at h2;simp at h2
 | cons c r=>
  rw [d,Qe] at h2;cases hc:A9 c
  · rw [Yb hc] at h2
    simp only [Bc,Ba,Ye,Dh] at h2;obtain ⟨i,g,f⟩:=h2;have lc:=Ml c;have n:hx a=(c.toNat / 16:Nat):=by rw [i];exact Bu _ O0
    have m:hx b=(c.toNat % 16:Nat):=by rw [g];exact Bu _ O0
    have j:UInt8.ofNat (16*hx a+hx b).toNat=c:=by
     rw [n,m];apply Hg.1;have:(16*((c.toNat / 16:Nat):Int)+((c.toNat % 16:Nat):Int)).toNat=c.toNat:=O0;rw [this];simp
    refine ⟨r,by rw [h1,j];simp,?_⟩;rw [<- Iz,d];exact f
  rw [Ib hc] at h2;simp only [Bc,Ba,Ye] at h2;rw [<- h2.1,gq] at hc;cases hc
theorem VB {x:UInt8} (h:Gq S t k) (f:S.drop k=x::rest) (j:rest≠[])
 (m:∀ a b c q,x=92->rest=a::b::c::q->hx a<0\/hx b<0):Gq S (t++[x]) (k+1):=by
 intro l e;obtain ⟨r,h1,h2⟩:=h l e
 cases r with
 | nil=>rw [f] at h2;simp at h2;exact absurd h2.2 j
 | cons c r=>
  rw [f,Qe] at h2;cases hc:A9 c
  · rw [Yb hc] at h2
    simp only [Bc,Ba,Ye] at h2;obtain ⟨i,g⟩:=h2;exfalso;have lc:=Ml c;have e1:=Bu (c.toNat / 16) O0;have e2:=Bu (c.toNat % 16) O0;rcases hq:r.flatMap qb++[34] with _ | ⟨d,q⟩
    · simp at hq
    rw [hq] at g;rcases m _ _ _ _ i g with h | h <;> omega
  rw [Ib hc] at h2;simp only [Bc,Ba,Ye] at h2;refine ⟨r,by rw [h1,h2.1];simp,?_⟩;rw [<- Iz,f];exact h2.2
theorem rH (s:ByteArray) (k:Nat) (h:k<s.size):s.data.toList.drop k=s[k]::s.data.toList.drop (k+1):=by
 rw [Vs (by simpa using h)];rfl
theorem dJ (a b:UInt8) (h1:0<=hx a) (h2:0<=hx b):((UInt8.ofNat (16*hx a+hx b).toNat).toNat:Int)=16*hx a+hx b:=by
 have:=jm a;have:=jm b;simp;omega
theorem JN {g a:Nat} (h:w.ownsRow base 5 1 (.slice (some ⟨g,0,none⟩) l.length a) l.length (Lib.byteCells l)):(convert 22 9 (.slice (some ⟨g,0,none⟩) l.length a)).run prog w=.ok (.string (Q3 l)) w:=by
 have:=BA (P:=prog) w 22 5 underlying22 underlying5 g 0 l.length a (l.map fun b=>(b.toNat:Int)) X0 (fun i c=>by
  rw [R7,h.cellAt i O0];simp [Lib.byteCells,c]) 9 underlying9
 rw [this];have e:l.map ((fun n:Int=>UInt8.ofNat n.toNat)∘fun b=>(b.toNat:Int))=l:=(Bo (fun b _=>X0)).trans (List.map_id l);simp only [strOfNums,Kq,e];rfl
theorem Ci (h:w.ownsRow base e size v n xs) (hn:0<n):∃ g a,v=.slice (some ⟨g,0,none⟩) n a:=by
 rcases h.2 with ⟨_,h0⟩ | ⟨g,cap,cur,hv,_⟩
 · omega
 exact ⟨g,cap,hv⟩
theorem c72 (s:ByteArray) (w:World) (hs:s.size<=1048700):
 Calls prog 72 #[.string s] w fun e w'=>(∃ t,e=.returned (.string (Q3 t))/\t.length<=s.size+1/\∀ l,s.data.toList=V4 l->t=l)/\Below w.heap.size w w':=by
 obtain ⟨F,K,J,I,H⟩:=Ze info5;go_enter func72,ntmps72
 go_wp2_with fail
 go_loopw [3,4] (fun v i wr=>∃ (k:Nat) (t:List UInt8),1<=k/\k<=s.size+1/\i=.int .i64 k/\t.length<=k/\wr.ownsRow w.heap.size 5 1 v t.length (Lib.byteCells t)/\Hid (∃ g Q,v=.slice (some ⟨g,0,none⟩) t.length Q)/\Hid (Gq s.data.toList t k)/\Below w.heap.size w wr/\w.heap.size+1<=wr.heap.size) (fun _ i _=>s.size+1 - (intOf i).toNat)
 case atStart=>exact ⟨1,[],O0,O0,rfl,X0,Om _ #[] 0 P9 (I5 _) rfl,⟨_,_,rfl⟩,mD _,bA,X0⟩
 obtain ⟨k,t,hk1,hk2,rfl,htk,o,hfm,E,p,hz⟩:=hrel;by_cases Y:k+1<s.size;rotate_left
 · have HE:=Q0 (OH E.out J4)
   have HL:Hid (t.length<=s.size+1):=by show t.length<=s.size+1;omega
   obtain ⟨g,Q,hv⟩:=hfm.out;subst hv;have hcv:=JN o;go_wp2;go_ret;exact ⟨⟨t,rfl,HL.out,HE.out⟩,p⟩
 have hlk:k<s.size:=O0;have L:=Q0 (rH s k hlk);have D:=Q0 (rH s (k+1) Y);by_cases B:s[k]=92;rotate_left
 · have e92:((s[k].toNat:Int)==92)=false:=by
    simp only [Gi];intro e;exact B (Hg.1 (by have:s[k].toNat=92:=O0;rw [this];rfl))
   have C:=Q0 (VB E.out (by rw [L.out]) (by rw [D.out];simp) (fun a b c q h _=>absurd h B));clear B
   go_wp2_with (first | (go_at_call 104;refine (kD _ _).mono ?_;rintro e w1 ⟨rfl,n⟩;obtain rfl:=n.symm) | (at_builtin;refine wpList_append_own _ rfl _ _ 22 rfl w.heap.size 5 F (.int .u8 0) 1 1 underlying22 K J I H rfl K3 _ _ _ rfl (o.alloc _) ⟨wr.heap.size,0,none⟩ 1 1 [_] rfl rfl (cell_one_new _ _ _) (by intro u d;simp at d;subst d;rfl) (by unfold maxLen;omega) O0 J4 ?_;intro v' r x m _))
   go_roundw
   case rel=>
    have A:=(p.alloc p.size _).grown m J4 (fun j y=>(o.lt j y).1);have f:r.ownsRow w.heap.size 5 1 v' (t++[s[k]]).length (Lib.byteCells (t++[s[k]])):=by rw [t_,Q7];exact x
    exact ⟨k+1,t++[s[k]],O0,O0,by go_num,J4,f,Ci f X0,C,A,by have:=m.size;simp at this;omega⟩
   case measure=>simp [intOf];omega
 have e92:((s[k].toNat:Int)==92)=true:=by rw [B];rfl
 by_cases h3:k+3<s.size;rotate_left
 · have C:=Q0 (VB E.out (by rw [L.out]) (by rw [D.out];simp) (fun a b c q _ h=>by have hh:=V3 List.length h;simp at hh;omega))
   clear B
   go_wp2_with (first | (go_at_call 104;refine (kD _ _).mono ?_;rintro e w1 ⟨rfl,n⟩;obtain rfl:=n.symm) | (at_builtin;refine wpList_append_own _ rfl _ _ 22 rfl w.heap.size 5 F (.int .u8 0) 1 1 underlying22 K J I H rfl K3 _ _ _ rfl (o.alloc _) ⟨wr.heap.size,0,none⟩ 1 1 [_] rfl rfl (cell_one_new _ _ _) (by intro u d;simp at d;subst d;rfl) (by unfold maxLen;omega) O0 J4 ?_;intro v' r x m _))
   go_roundw
   case rel=>
    have A:=(p.alloc p.size _).grown m J4 (fun j y=>(o.lt j y).1);have f:r.ownsRow w.heap.size 5 1 v' (t++[s[k]]).length (Lib.byteCells (t++[s[k]])):=by rw [t_,Q7];exact x
    exact ⟨k+1,t++[s[k]],O0,O0,by go_num,J4,f,Ci f X0,C,A,by have:=m.size;simp at this;omega⟩
   case measure=>simp [intOf];omega
 have Z:k+2<s.size:=O0;have R:=Q0 (rH s (k+2) Z);have r1:=jm s[k+1];have r2:=jm s[k+2];by_cases X:0<=hx s[k+1];rotate_left
 · have C:=Q0 (VB E.out (by rw [L.out]) (by rw [D.out];simp) (fun a b c q _ h=>.inl (by rw [D.out] at h;injection h with h _;rw [<- h];omega)))
   clear B
   go_wp2_with (first | (go_at_call 104;refine (kD _ _).mono ?_;rintro e w1 ⟨rfl,n⟩;obtain rfl:=n.symm) | (at_builtin;refine wpList_append_own _ rfl _ _ 22 rfl w.heap.size 5 F (.int .u8 0) 1 1 underlying22 K J I H rfl K3 _ _ _ rfl (o.alloc _) ⟨wr.heap.size,0,none⟩ 1 1 [_] rfl rfl (cell_one_new _ _ _) (by intro u d;simp at d;subst d;rfl) (by unfold maxLen;omega) O0 J4 ?_;intro v' r x m _))
   go_roundw
   case rel=>
    have A:=(p.alloc p.size _).grown m J4 (fun j y=>(o.lt j y).1);have f:r.ownsRow w.heap.size 5 1 v' (t++[s[k]]).length (Lib.byteCells (t++[s[k]])):=by rw [t_,Q7];exact x
    exact ⟨k+1,t++[s[k]],O0,O0,by go_num,J4,f,Ci f X0,C,A,by have:=m.size;simp at this;omega⟩
   case measure=>simp [intOf];omega
 by_cases W:0<=hx s[k+2];rotate_left
 · have C:=Q0 (VB E.out (by rw [L.out]) (by rw [D.out];simp) (fun a b c q _ h=>.inr (by rw [D.out,R.out] at h;injection h with _ h;injection h with h _;rw [<- h];omega)))
   clear B
   go_wp2_with (first | (go_at_call 104;refine (kD _ _).mono ?_;rintro e w1 ⟨rfl,n⟩;obtain rfl:=n.symm) | (at_builtin;refine wpList_append_own _ rfl _ _ 22 rfl w.heap.size 5 F (.int .u8 0) 1 1 underlying22 K J I H rfl K3 _ _ _ rfl (o.alloc _) ⟨wr.heap.size,0,none⟩ 1 1 [_] rfl rfl (cell_one_new _ _ _) (by intro u d;simp at d;subst d;rfl) (by unfold maxLen;omega) O0 J4 ?_;intro v' r x m _))
   go_roundw
   case rel=>
    have A:=(p.alloc p.size _).grown m J4 (fun j y=>(o.lt j y).1);have f:r.ownsRow w.heap.size 5 1 v' (t++[s[k]]).length (Lib.byteCells (t++[s[k]])):=by rw [t_,Q7];exact x
    exact ⟨k+1,t++[s[k]],O0,O0,by go_num,J4,f,Ci f X0,C,A,by have:=m.size;simp at this;omega⟩
   case measure=>simp [intOf];omega
 have C:=Q0 (uN E.out (by rw [L.out,D.out,R.out,B]));have HB:=Q0 (dJ _ _ X W);clear B
 go_wp2_with (go_at_call 104;refine (kD _ _).mono ?_;rintro e w1 ⟨rfl,n⟩;obtain rfl:=n.symm)
 have V:IntKind.i64.wrap ((k:Int)+1)=((k+1:Nat):Int):=by simp [IntKind.wrap,IntKind.signed,IntKind.bits];omega
 have U:IntKind.i64.wrap ((k:Int)+2)=((k+2:Nat):Int):=by simp [IntKind.wrap,IntKind.signed,IntKind.bits];omega
 have S:IntKind.i64.wrap (16*hx s[k+1])=16*hx s[k+1]:=by simp [IntKind.wrap,IntKind.signed,IntKind.bits];omega
 have O:IntKind.i64.wrap (16*hx s[k+1]+hx s[k+2])=16*hx s[k+1]+hx s[k+2]:=by simp [IntKind.wrap,IntKind.signed,IntKind.bits];omega
 have N:IntKind.u8.wrap (16*hx s[k+1]+hx s[k+2])=16*hx s[k+1]+hx s[k+2]:=by simp [IntKind.wrap,IntKind.signed,IntKind.bits];omega
 have WA:Hid (IntKind.u8.wrap (IntKind.i64.wrap (16*hx s[k+1]+hx s[k+2]))=16*hx s[k+1]+hx s[k+2]):=by rw [O,N];rfl
 have hc1:((k+1:Nat):Int)<(s.size:Int):=O0;have hc2:((k+2:Nat):Int)<(s.size:Int):=O0
 go_region_law (first | (refine yl rfl (.tmp 40) (.tmp 54) 22 rfl w.heap.size 5 F (.int .u8 0) 1 1 underlying22 K J I H rfl K3 _ _ _ rfl ((o.drew).alloc _) ⟨wr.heap.size,0,none⟩ 1 1 [_] rfl rfl (cell_one_new _ _ _) (by intro u d;simp at d;subst d;rfl) (by unfold maxLen;omega) O0 J4 ?_;intro v' r x m) | (go_simp;go_wp2_with (go_at_call 104;refine (kD _ _).mono ?_;rintro e w1 ⟨rfl,n⟩;obtain rfl:=n.symm)))
 all_goals clear V U S O N hc1 hc2
 all_goals go_wp2
 all_goals go_roundw
 all_goals (try (simp [intOf];omega;done))
 all_goals
  have A:=((p.drew).alloc p.size _).grown m J4 (fun j y=>(o.lt j y).1);have f:r.ownsRow w.heap.size 5 1 v' (t++[UInt8.ofNat (16*hx s[k+1]+hx s[k+2]).toNat]).length (Lib.byteCells (t++[UInt8.ofNat (16*hx s[k+1]+hx s[k+2]).toNat])):=by
   rw [t_,Q7];rw [show Lib.byteCells [UInt8.ofNat (16*hx s[k+1]+hx s[k+2]).toNat]=[.int .u8 (16*hx s[k+1]+hx s[k+2])] from V3 (fun z:Int=>[Value.int .u8 z]) HB.out];have P:=x;simp only [show ((k:Int)+2).toNat=k+2 by omega,WA.out] at P;exact P
  exact ⟨k+3,_,O0,O0,by go_num,J4,f,Ci f X0,C,A,by have:=m.size;simp at this;omega⟩
theorem Gn (js:List I3) (o:List (List UInt8)):(js.flatMap V8).foldl (cst 10) (o,[])=(o++js.map body,[]):=by
 induction js generalizing o with
 | nil=>simp
 | cons x r ih=>
  rw [Qe,Ev,S9,Dw _ _ (Ta x)];simp only [Ba];rw [ih];simp
theorem Mg (js:List I3):E8 10 (js.flatMap V8)=js.map body++[[]]:=by
 unfold E8 M5;rw [Gn];simp
def ug (l:List UInt8) (x:I3):Prop:=∀ y,Zb y=true->l=body y->x=y
def LC (l:List UInt8) (o:Int):Prop:=(o=0/\∀ p:Nat,1<=p->p<=11->word p≠O1 l)\/((1<=o/\o<=11)/\word o=O1 l)
theorem Gp {y:I3} (h:LC l o) (a:Zb y=true) (e:l=body y):o=y.op:=by
 rcases h with ⟨_,h⟩ | ⟨h1,h2⟩
 · exact absurd e (Qt h y a)
 exact (jg a e h1 h2).symm
theorem gy {b:ByteArray} (h:b.toList.isEmpty=true):(⟨#[]⟩:ByteArray)=b:=Jq OO h
theorem dD (h:LC l o) (b:Z7 o=false) (hX:M8 o=false):ug l ⟨o,⟨#[]⟩,0⟩:=by
 intro y a e;have ho:=Gp h a e;obtain ⟨_,h2,h3,_⟩:=m_ a;obtain ⟨op,tx,to⟩:=y;simp only at ho h2 h3;subst ho;simp only [b,I_,Zg] at h2;simp only [hX,I_,Zg] at h3;rw [h2,gy h3]
theorem PD (h:LC l o) (c:Z7 o=true) (hX:M8 o=false):ug l ⟨o,⟨#[]⟩,n29 (O1 (I1 l))⟩:=by
 intro y a e;have ho:=Gp h a e;obtain ⟨_,h2,h3,d,h5,_⟩:=m_ a;have b:I1 l=Lib.decDigits y.to.toNat:=by
  rw [e];unfold body;rw [Vj,Yk,<- ho,c,hX];simp only [Zc,I_,xg,Xj];exact (Y5 (U_ _).1).2
 rw [b,(Og (Sd _).1).1,Dx _ O0];obtain ⟨op,tx,to⟩:=y;simp only at ho h3 d;subst ho;simp only [hX,I_,Zg] at h3;rw [gy h3];simp only [I3.mk.injEq,Dh];omega
theorem gD (h:LC l o) (b:Z7 o=false) (hX:M8 o=true) (c:∀ q,I1 l=V4 q->t=q):ug l ⟨o,Q3 t,0⟩:=by
 intro y a e;have ho:=Gp h a e;obtain ⟨_,h2,h3,h4,h5,_⟩:=m_ a;have d:I1 l=V4 y.tx.data.toList:=by
  rw [e];unfold body;rw [Vj,Yk,<- ho,b,hX];simp only [Zc,I_,xg,Xj];exact (Y5 (U_ _).1).2
 have:=c _ d;obtain ⟨op,tx,to⟩:=y;simp only at ho h2 this;subst ho;simp only [b,I_,Zg] at h2;rw [h2,this,<- v_ rfl]
theorem FC (h:LC l o) (g:Z7 o=true) (hX:M8 o=true) (d:∀ q,I1 (I1 l)=V4 q->t=q):ug l ⟨o,Q3 t,n29 (O1 (I1 l))⟩:=by
 intro y c e;have ho:=Gp h c e;obtain ⟨_,h2,h3,i,h5,_⟩:=m_ c;have f:I1 l=Lib.decDigits y.to.toNat++32::V4 y.tx.data.toList:=by
  rw [e];unfold body;rw [Vj,Yk,<- ho,g,hX];simp only [Zc,y_,Bc];exact (Y5 (U_ _).1).2
 obtain ⟨b,a⟩:=Y5 (r:=V4 y.tx.data.toList) (Sd y.to.toNat).1;rw [<- f] at b a;have:=d _ a;rw [b,Dx _ O0,this,<- v_ rfl];obtain ⟨op,tx,to⟩:=y;simp only at ho i;subst ho;simp only [I3.mk.injEq,Dh];omega
def Di (S:List UInt8) (is:List I3) (k:Nat):Prop:=∀ js:List I3,js.all Zb=true->js.flatMap V8=S->is=js.take k
theorem Ni (S:List UInt8):Di S [] 0:=fun _ _ _=>rfl
theorem Vd {x:I3} (h:Di S is k) (c:k+1<(E8 10 S).length) (b:ug ((E8 10 S).getD k []) x):Di S (is++[x]) (k+1):=by
 intro js d e;have h1:=h js d e;have f:=Mg js;rw [e] at f;rw [f] at c b;simp only [Q7,qc,u_,Mi] at c;have a:k<js.length:=O0;have i:(js.map body++[[]]).getD k []=body js[k]:=by
  simp only [List.getD,Eb (show k<(js.map body).length by simpa using a),Kb,F8 a];rfl
 rw [i] at b;have g:=(Nf.1 d) _ (Ea a);rw [h1,b js[k] g rfl,<- Rh a]
theorem Qm (h:Di S is k) (b:k+1=(E8 10 S).length) (d:S.length<=300):(S≠[]/\qd is=S->Z_ S is true)/\(¬ (S≠[]/\qd is=S)->Z_ S [] false):=by
 constructor
 · rintro ⟨h1,h2⟩
   unfold qd at h2;by_cases a:Zd is=true/\(is.flatMap V8).length<=300
   · rw [Y3 a] at h2
     exact ⟨fun _=>⟨a.1,h2,d⟩,(fun h=>by cases h)⟩
   rw [R3 a] at h2;exact absurd h2.symm h1
 intro f;refine ⟨(fun h=>by cases h),fun _=>⟨rfl,fun js c e=>?_⟩⟩;exfalso;apply f;obtain ⟨⟨hl1,hl2⟩,g⟩:=Wd c;have h1:=h js g e;have a:=Mg js;rw [e] at a;rw [a] at b;simp only [Q7,qc,u_,Mi] at b;rw [E_ O0] at h1;subst h1;refine ⟨fun i=>?_,?_⟩
 · rw [i] at e
   have:=Ri is;rw [e,Mi] at this;omega
 unfold qd;rw [Y3 ⟨c,by rw [e];exact d⟩,e]
structure Mid (X:Nat) (w1 wq:World) (o:Int) (tx:ByteArray) (to:Int):Prop where
 but:But X w1 wq
 blk:wq.heap[X]?=some (.cells #[.int .i64 o,.string tx,.int .i64 to] 165 (0,0))
theorem Mid.below {wp:World} (h:Mid X w1 wq o tx to) (a:Below wq.heap.size wq wp):Mid X w1 wp o tx to:=
 ⟨h.but.trans (But.of_below a),(a.block X (Q4 h.blk)).trans h.blk⟩
theorem Mid.set0 (h:Mid X w1 wq o tx to) (a:Int):Mid X w1 (wq.setCell ⟨X,0,none⟩ (.int .i64 a)) a tx to:=
 ⟨h.but.setCell _ _,o8 wq X 0 _ _ _ h.blk⟩
theorem Mid.set1 (h:Mid X w1 wq o tx to) (a:ByteArray):Mid X w1 (wq.setCell ⟨X,1,none⟩ (.string a)) o a to:=
 ⟨h.but.setCell _ _,o8 wq X 1 _ _ _ h.blk⟩
theorem Mid.set2 (h:Mid X w1 wq o tx to) (a:Int):Mid X w1 (wq.setCell ⟨X,2,none⟩ (.int .i64 a)) o tx a:=
 ⟨h.but.setCell _ _,o8 wq X 2 _ _ _ h.blk⟩
theorem Mid.cells (h:Mid X w1 wq o tx to):
 (wq.cell? ⟨X,0,none⟩=some (.int .i64 o)/\wq.cell? ⟨X,1,none⟩=some (.string tx)/\wq.cell? ⟨X,2,none⟩=some (.int .i64 to))/\wq.frozen? ⟨X,0,none⟩=false/\wq.frozen? ⟨X,1,none⟩=false/\wq.frozen? ⟨X,2,none⟩=false:=by
 refine ⟨⟨?_,?_,?_⟩,B_ h.blk 0,B_ h.blk 1,B_ h.blk 2⟩
 · rw [Z5 h.blk];rfl
 · rw [Z5 h.blk];rfl
 rw [Z5 h.blk];rfl
theorem Am (h:w.ownsRow base e size v n xs) (f:But b w w') (c:v.ownBlock≠some b):w'.ownsRow base e size v n xs:=by
 refine ⟨h.1,?_⟩;rcases h.2 with h2 | ⟨g,cap,cur,hv,d,a,r⟩
 · exact .inl h2
 refine .inr ⟨g,cap,cur,hv,d,?_,r⟩;rw [f.block g (Q4 a) (fun e=>c (by rw [hv,e];rfl))];exact a
def DC (l:List UInt8) (q:Nat) (o:Int):Prop:=(o=0/\∀ p:Nat,1<=p->p<q->word p≠O1 l)\/((1<=o/\o<q)/\word o=O1 l)
theorem qH (_h:DC l q o) (hq:1<=q) (hw:word q=O1 l):DC l (q+1) q:=.inr ⟨O0,hw⟩
theorem TI (h:DC l q o) (hw:word q≠O1 l):DC l (q+1) o:=by
 rcases h with ⟨h1,h2⟩ | ⟨h1,h2⟩
 · refine .inl ⟨h1,fun p a hq=>?_⟩
   by_cases e:p=q
   · subst e;exact hw
   exact h2 p a O0
 exact .inr ⟨O0,h2⟩
theorem vG (h:DC l 12 o):LC l o:=by
 rcases h with ⟨h1,h2⟩ | ⟨h1,h2⟩
 · exact .inl ⟨h1,fun p a hq=>h2 p a O0⟩
 exact .inr ⟨O0,h2⟩
end Go.Proofs.YtdjaajjndfbpmaaGreatDoor
