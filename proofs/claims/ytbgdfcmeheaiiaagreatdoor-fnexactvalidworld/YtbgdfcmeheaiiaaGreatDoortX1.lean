import Derived.Test.YtbgdfcmeheaiiaaGreatDoortW4
import Derived.Lib.SliceRun
import Derived.Test.YtbgdfcmeheaiiaaGreatDoorMB
set_option linter.unusedVariables false
set_option linter.unusedSimpArgs false
set_option maxHeartbeats 8000000
set_option maxRecDepth 100000
namespace Go.Proofs.YtbgdfcmeheaiiaaGreatDoor.T
open Proofs.Tryz Go.RowKit
variable{B b g i j n p:Nat}{u u' w w':World}{r t v:Value}{c e:Int}{d fs gs:List F2}{x:F2}{nm:BY}
theorem _root_.Go.Proofs.YtbgdfcmeheaiiaaGreatDoor.But.setCells(b:Nat):∀(vs:List Value)(o:Nat){w w':World},But b w w'->But b w (w'.setCells b o vs)
 | [],_,_,_,h=>h
 | v::vs,o,_,_,h=>But.setCells b vs (o+1) (h.setCell o v)
theorem _root_.Go.Proofs.YtbgdfcmeheaiiaaGreatDoor.But.drew(h:But b w w'):But b w w'.drew:=⟨h.os,h.tape,h.output,h.size,h.block⟩
def JO(w:World)(g:Nat):Prop:=∃c,w.heap[g]?=some (.cells c 166 (0,0))
theorem a1I(h:JO w g):Oj w g 166:=by
 obtain⟨c,h⟩:=h;exact⟨c,_,h⟩
theorem Ht{q:Nat}(h:JO w g):JO (w.setCell ⟨q,j,none⟩ v) g:=by
 obtain⟨cur,h⟩:=h;by_cases e:q=g
 ·subst e;refine⟨cur.setIfInBounds j v,?_⟩;simp only[World.setCell];rw[Array.getElem?_modify];simp[h]
 exact⟨cur,(vz _ _ _ _ (λk=>e k.symm)).trans h⟩
theorem Jj(g:Nat):∀(vs:List Value)(o:Nat){w:World}{b:Nat},JO w b->JO (w.setCells g o vs) b
 | [],_,_,_,h=>h
 | _::vs,o,_,_,h=>Jj g vs (o+1) (Ht h)
theorem JF{c:Nat}(h:Vk w B v fs)(hv:v=.slice (some ⟨g,0,none⟩) n c):JO w g:=by
 rcases h.2 with⟨e,_⟩|⟨g',_,cur,e,_,a,_⟩
 ·rw[hv]at e;cases e
 rw[hv]at e;cases e;exact⟨cur,a⟩
theorem MJ(w:World)(ty:TypeId)(b o c:Nat)(h0:(w.cell? ⟨b,o,none⟩).isSome=true)(h1:(w.cell? ⟨b,o+1,none⟩).isSome=true)(hf:∀j,w.frozen? ⟨b,j,none⟩=false):
 (Builtin.clear_ #[44] ty #[.slice (some ⟨b,o,none⟩) 1 c]).run prog w=.ok (.tuple #[]) (w.setCells b o [.string ⟨#[]⟩,.string ⟨#[]⟩]):=by
 have d:(Builtin.zeroCells (Value.agg #[vE,vE]).cells 1).toList=[vE,vE]:=Y0;have a:=run_storeCells_cells (P:=prog) b o [vE,vE] 0 w (λj e=>by
  match j,e with
  | 0,_=>exact h0
  | 1,_=>exact h1) (λj _=>hf _) (by intro v hv;simp at hv;rw[hv];rfl)
 simp only[Iq]at a;simp[Builtin.clear_,Yr underlying44,d,a]
def del(fs:List F2)(p:Nat):List F2:=fs.take p++fs.drop (p+1)
theorem Zx(h:p<fs.length):(del fs p).length=fs.length-1:=by unfold del;rw[List.length_append,List.length_take,List.length_drop];omega
theorem XT(h:p<fs.length)(a:i<p):(del fs p).getD i P8=fs.getD i P8:=by
 unfold del;simp only[List.getD];rw[R_ (by rw[L_];omega),lD a]
theorem nU(h:p<fs.length)(hi:p<=i):(del fs p).getD i P8=(fs.drop (p+1)).getD (i-p) P8:=by
 unfold del;simp only[List.getD];rw[rf (by rw[L_];omega),L_,Oq O0]
theorem Eu(fs:List F2)(n i:Nat):(fs.drop n).getD i P8=fs.getD (n+i) P8:=by simp[List.getD]
theorem isSome_setCells(b:Nat):∀(vs:List Value)(o:Nat)(w:World)(x:Addr),(w.cell? x).isSome=true->((w.setCells b o vs).cell? x).isSome=true
 | [],_,_,_,h=>h
 | v::vs,o,w,x,h=>isSome_setCells b vs (o+1) _ x (by
  obtain⟨y,c⟩:=nR.1 h;obtain⟨z,a⟩:=cell?_setCell_some (w:=w) (p:=⟨b,o,none⟩) (x:=v) c;rw[a];rfl)
theorem a4Z(g d:Nat)(fs:List F2)(p:Nat)(w:World)(hl:fs.length<=40)(n:p<fs.length)(hc:fs.length<=d)(Q:g<w.heap.size)(m:∀i,i<fs.length->w.cell? ⟨g,i*2,none⟩=some (.string (fs.getD i P8).nm)/\w.cell? ⟨g,i*2+1,none⟩=some (.string (fs.getD i P8).tx))(o:∀j,w.frozen? ⟨g,j,none⟩=false):
 Calls prog 238 #[.slice (some ⟨g,0,none⟩) fs.length d,.int .i64 p,.int .i64 ((p:Int)+1)] w λe w'=>e=.returned (.slice (some ⟨g,0,none⟩) (fs.length-1) d)/\U5 w' (some ⟨g,0,none⟩) (del fs p)/\Pn w' g (fs.length-1)/\But g w w'/\(JO w g->JO w' g):=by
 obtain⟨N,f,hz0,O,hz2⟩:=info_parts Vp;have hne:((p:Int)==(p:Int)+1)=false:=K_.2 O0;have hpc:p<=d:=O0;have hp0:(0:Int)<=(p:Int)+1:=O0;have hp1:(p:Int)+1<=(fs.length:Int):=O0;obtain⟨A,hA,L⟩:∃A:Addr,(if d=p+1 then some (aA g 0) else some (aA g ((p+1)*2)))=some A/\Hid (∀j u,(J3 (fs.drop (p+1)))[j]?=some u->w.drew.cell? (A.add j)=some u):=by
  by_cases h:d=p+1
  ·refine⟨_,by rw[D8 h],λj u l=>?_⟩;have h0:fs.drop (p+1)=[]:=List.drop_eq_nil_of_le O0;rw[h0]at l;simp[J3]at l
  refine⟨_,by rw[Y7 h],λj u l=>?_⟩;refine Aw (w:=w.drew) (fs:=fs.drop (p+1)) (b:=g) (off:=(p+1)*2) (λi f=>?_) j u l;rw[Lj]at f;have:=m (p+1+i) O0;rw[Eu,show(p+1)*2+i*2=(p+1+i)*2 by omega];exact this
 have q:∀j,j<fs.length*2->(w.cell? (aA g j)).isSome=true:=λj a=>by
  have:=m (j / 2) O0;rcases YI j with h|h
  ·rw[show j=j / 2*2 by omega,this.1];rfl
  rw[show j=j / 2*2+1 by omega,this.2];rfl
 have t:Hid (∀j,j<(J3 (fs.drop (p+1))).length->(w.drew.cell? (aA g (0+p*2+j))).isSome=true/\w.drew.frozen? (aA g (0+p*2+j))=false):=λj a=>by
  rw[E8,Lj]at a;exact⟨q _ O0,o _⟩
 have W:=U0 m;have U:=U0 o;have V:=U0 q;clear m o q
 go_in
 go_wp2_with fail
 refine wp_region_held_drew (S:=(λ_=>True)) Y0 ?_ λhHeld=>?_
 · ((try dsimp only);(try trivial))
 iterate 6 refine sq ?_
 refine rq 6 λK y=>?_;refine step_append_room rfl (.tmp 22) (.tmp 25) 44 rfl 166 N 2 underlying44 f O g 0 p d rfl A (fs.length-(p+1)) (d-(p+1)) (J3 (fs.drop (p+1))) rfl (by rw[E8,Lj]) L.out Dh O0 t.out ?_;clear hHeld;refine X8 y ?_ λhHeld=>?_
 ·trivial
 clear y K;refine sq ?_;refine wdn ?_;have r:(J3 (fs.drop (p+1))).length=(fs.length-(p+1))*2:=by rw[E8,Lj]
 have C:∀j,j<fs.length*2->((w.drew.setCells g (0+p*2) (J3 (fs.drop (p+1)))).cell? (aA g j)).isSome=true:=λj a=>isSome_setCells g _ _ _ _ (V.out j a);have D:∀j,(w.drew.setCells g (0+p*2) (J3 (fs.drop (p+1)))).frozen? (aA g j)=false:=λj=>(World.frozen?_setCells g _ _ _ _).trans (U.out j);have z:∀j,j<p*2->(w.drew.setCells g (0+p*2) (J3 (fs.drop (p+1)))).cell? (aA g j)=w.cell? (aA g j):=λj a=>World.cell?_setCells_out g _ _ _ _ (λ_ _=>.inl (by show j<0+p*2;omega));have B:∀j,j<(fs.length-(p+1))*2->(w.drew.setCells g (0+p*2) (J3 (fs.drop (p+1)))).cell? (aA g (p*2+j))=(J3 (fs.drop (p+1)))[j]?:=λj a=>by
  have:=World.cell?_setCells_in g (J3 (fs.drop (p+1))) (0+p*2) w.drew (λi f=>(t.out i f).1) j (by rw[r];exact a);rw[l7]at this ⊢;rw[this,D9 (by rw[r];exact a)]
 have R:Hid (JO w g->JO (w.drew.setCells g (0+p*2) (J3 (fs.drop (p+1)))) g):=λh=>Jj _ _ _ h;have E:But g w (w.drew.setCells g (0+p*2) (J3 (fs.drop (p+1)))):=But.setCells g _ _ (But.refl _ _).drew;have I:=U0 z;have J:=U0 B;have s:=U0 C;have F:=U0 D;have H:=U0 E;clear C D z B E r t L hHeld;generalize w.drew.setCells g (0+p*2) (J3 (fs.drop (p+1)))=k at*;have P:p+(fs.length-(p+1))=fs.length-1:=O0;have hq1:fs.length-(fs.length-1)=1:=O0;have hq2:fs.length-1<=fs.length:=O0;have hq3:(p:Int)+((fs.length-(p+1):Nat):Int)=((fs.length-1:Nat):Int):=O0;have hcl:∀ty c,(Builtin.clear_ #[44] ty #[vL (some (aA g ((fs.length-1)*2))) 1 c]).run prog k=.ok (.tuple #[]) (k.setCells g ((fs.length-1)*2) [vE,vE]):=λty c=>
  MJ k ty g _ c (s.out _ O0) (s.out _ O0) F.out
 rw[P];go_wp2;have x:∀j,j<(fs.length-1)*2->(k.setCells g ((fs.length-1)*2) [vE,vE]).cell? (aA g j)=k.cell? (aA g j):=λj a=>World.cell?_setCells_out g _ _ _ _ (λ_ _=>.inl (by show j<(fs.length-1)*2;omega));have v:g<(k.setCells g ((fs.length-1)*2) [vE,vE]).heap.size:=G9 Q (But.setCells g _ _ H.out).size;go_ret;refine⟨rfl,.inr ⟨g,0,rfl,v,λi f=>?_⟩,⟨v,λj a=>?_,λj=>(World.frozen?_setCells g _ _ _ _).trans (F.out j)⟩,But.setCells g _ _ H.out,λh=>Jj _ _ _ (R.out h)⟩
 ·rw[Zx n]at f;rw[l7,x _ O0,x _ O0];rcases P7 i p with h|h
  ·rw[I.out _ O0,I.out _ O0,XT n h];exact W.out i O0
  obtain⟨e0,e1⟩:=Qd (fs.drop (p+1)) (i-p) (by rw[Lj];omega);have h0:=J.out ((i-p)*2) O0;have h1:=J.out ((i-p)*2+1) O0;rw[show p*2+(i-p)*2=i*2 by omega,e0]at h0;rw[show p*2+((i-p)*2+1)=i*2+1 by omega,e1]at h1;rw[nU n h];exact⟨h0,h1⟩
 exact nR.1 (isSome_setCells g _ _ _ _ (s.out j O0))
theorem Fh(h:U5 w (some ⟨B,0,none⟩) fs)(c:B<w.heap.size)(hf:∀j,w.frozen? ⟨B,j,none⟩=false):Pn w B fs.length:=by
 refine⟨c,λj a=>?_,hf⟩;rcases h with h|⟨b,off,h1,h2,d⟩
 ·rw[h]at a;simp at a
 obtain⟨rfl,rfl⟩:B=b/\0=off:=by injection h1 with h1;injection h1 with e1 e2;exact⟨e1,e2⟩
 have:=d (j / 2) O0;simp only[l7]at this;rcases YI j with h|h
 ·rw[show j=j / 2*2 by omega];exact⟨_,this.1⟩
 rw[show j=j / 2*2+1 by omega];exact⟨_,this.2⟩
theorem ne_of_lt'{a b:BY}(h:lt a b=true):a≠b:=λe=>by rw[e,Uc]at h;cases h
theorem a0z{x y:BY}(h:x≠y):(x.toList==y.toList)=false:=by
 rw[K_];intro e;rw[ByteArray.toList_eq,ByteArray.toList_eq]at e;exact h (mg (Xk.1 e))
theorem getD_mem(h:x∈fs):∃i,i<fs.length/\fs.getD i P8=x:=by
 obtain⟨i,a,rfl⟩:=Ce h;exact⟨i,a,by simp[List.getD,D9 a]⟩
theorem filter_all(h:∀i,i<fs.length->(fs.getD i P8).nm≠nm):without fs nm=fs:=by
 unfold without;refine zJ.2 λx hx=>?_;obtain⟨i,a,rfl⟩:=getD_mem hx;rw[a0z (h i a)];rfl
theorem nO(h:i<p):(fs.take p).getD i P8=fs.getD i P8:=by simp[List.getD,lD h]
theorem Uw(hm:Asc fs)(b:p<fs.length):without fs (fs.getD p P8).nm=del fs p:=by
 have e:fs=fs.take p++fs.getD p P8::fs.drop (p+1):=by
  conv=>lhs;rw[<- Qk (p+1) fs,aj b]
  simp
 have h1:without (fs.take p) (fs.getD p P8).nm=fs.take p:=filter_all λi a=>by
  rw[L_]at a;rw[nO O0];exact ne_of_lt' (hm i p O0 b)
 have h2:without (fs.drop (p+1)) (fs.getD p P8).nm=fs.drop (p+1):=filter_all λi a=>by
  rw[Lj]at a;rw[Eu];exact(ne_of_lt' (hm p (p+1+i) O0 O0)).symm
 have c:without (fs.take p++fs.getD p P8::fs.drop (p+1)) (fs.getD p P8).nm=without (fs.take p) (fs.getD p P8).nm++without (fs.drop (p+1)) (fs.getD p P8).nm:=by
  unfold without;rw[Ou,List.filter_cons_of_neg O4]
 rw[<- e,h1,h2]at c;exact c
def Yh(fs:List F2)(nm:BY)(c:Int)(gs:List F2):Prop:=
 (¬A_ fs/\c=1/\gs=[])\/(A_ fs/\(∀i,i<fs.length->(fs.getD i P8).nm≠nm)/\c=4/\gs=[])\/(A_ fs/\(∃i,i<fs.length/\(fs.getD i P8).nm=nm)/\c=0/\gs=without fs nm)
theorem UC(h:Yh fs nm c gs)(k:Yh fs nm e d):e=c/\d=gs:=by
 rcases h with⟨h1,rfl,rfl⟩|⟨h1,h2,rfl,rfl⟩|⟨h1,⟨i,g,h2⟩,rfl,rfl⟩<;>rcases k with⟨a,rfl,rfl⟩|⟨a,b,rfl,rfl⟩|⟨a,⟨j,f,b⟩,rfl,rfl⟩
 ·exact⟨rfl,rfl⟩
 ·exact absurd a h1
 ·exact absurd a h1
 ·exact absurd h1 a
 ·exact⟨rfl,rfl⟩
 ·exact absurd b (h2 j f)
 ·exact absurd h1 a
 ·exact absurd h2 (b i g)
 exact⟨rfl,rfl⟩
theorem RN(h:Yh fs nm c gs):gs.length<=40:=by
 rcases h with⟨h1,rfl,rfl⟩|⟨h1,h2,rfl,rfl⟩|⟨h1,h2,rfl,rfl⟩
 ·simp
 ·simp
 exact Q8 (Jw _ _) h1.1
theorem ig{B':Nat}{e:TypeId}{size:Nat}{xs:List Value}(h:w.ownsRow B e size v n xs)(hB:B'<=B):w.ownsRow B' e size v n xs:=by
 refine⟨h.1,?_⟩;rcases h.2 with h2|⟨g,b,cur,hv,a,r⟩
 ·exact .inl h2
 exact .inr ⟨g,b,cur,hv,Q8 hB a,r⟩
theorem XK(w:World)(B:Nat):Vk w B (.slice none 0 0) []:=⟨rfl,.inl ⟨rfl,rfl⟩⟩
structure Ai(w u:World)(t r:Value):Prop where
 bel:Bw w u
 ht:u.heap[w.heap.size]?=some (.cells #[t] 46 (0,0))
 hr:u.heap[w.heap.size+1]?=some (.cells #[r] 46 (0,0))
theorem Ai.start(w:World)(t r:Value):Ai w ((w.alloc (.cells #[t] 46)).alloc (.cells #[r] 46)) t r:=
 ⟨P6.alloc O4 _,by rw[alloc_old O4];exact Ic rfl _,Ic O4 _⟩
theorem Ai.sz(h:Ai w u t r):w.heap.size+2<=u.heap.size:=Xf h.hr
theorem Ai.later(h:Ai w u t r)(a:Bw u u'):Ai w u' t r:=by
 have:=h.sz;exact⟨h.bel.trans (a.mono O0),by rw[a.block _ O0];exact h.ht,by rw[a.block _ O0];exact h.hr⟩
theorem Ai.but(h:Ai w u t r)(a:But g u u')(hg:w.heap.size+2<=g):Ai w u' t r:=by
 have:=h.sz;exact⟨h.bel.trans (a.below O0 O0),by rw[a.block _ O0 O0];exact h.ht,by rw[a.block _ O0 O0];exact h.hr⟩
theorem Ai.cells(h:Ai w u t r):u.cell? ⟨w.heap.size,0,none⟩=some t/\u.cell? ⟨w.heap.size+1,0,none⟩=some r/\u.frozen? ⟨w.heap.size+1,0,none⟩=false:=
 ⟨by rw[Lib.cell_of_heap h.ht];rfl,by rw[Lib.cell_of_heap h.hr];rfl,Lib.frozen_of_heap h.hr 0⟩
theorem a4x(a:OA)(d:Nat)(fs:List F2)(nm:BY)(w:World)(hl:fs.length<=1048576)(o:∀i,(fs.getD i P8).le 1048576)(s:U5 w a fs):
 Calls prog 155 #[.agg #[.slice a fs.length d],.string nm] w λe w'=>(∃v c gs,e=.returned (.tuple #[.agg #[v],.int .i64 c])/\Vk w' w.heap.size v gs/\Yh fs nm c gs)/\Bw w w':=by
 have m:=U0 s;have N:=U0 o;have n:Hid (Ai w ((w.alloc (.cells #[vL a fs.length d] 46)).alloc (.cells #[vN] 46)) (vL a fs.length d) vN):=Ai.start _ _ _;clear s o
 go_in
 go_wp2_with fail
 refine(YZ a d fs _ hl N.out (X4 m.out n.out.bel)).mono ?_;rintro e z⟨⟨v,rfl,hv⟩,q⟩;have k:=U0 hv;have j:=U0 (n.out.later q);obtain⟨t1,C,f1⟩:=j.out.cells;clear hv q n;cases v
 ·have f:Hid (Yh fs nm 1 []):=.inl ⟨λh=>(by have:=k.out.2 h;cases this),rfl,rfl⟩;clear k;go_wp2;refine o7 (v:=.tuple #[.agg #[vN],vI 1]) (by simp[results,results155,go_sem,C]) rfl ⟨⟨_,_,_,rfl,XK _ _,f.out⟩,j.out.bel.setCell O4 _⟩
 have p:=k.out.1 rfl;have H:=p.1;have u:=U0 p
 go_wp2_with fail
 refine(zZ a d fs nm z O0 (X4 m j.out.bel)).mono ?_;rintro e y⟨⟨r,rfl,hr⟩,J⟩;have t:Hid ((r<0/\∀i,i<fs.length->(fs.getD i P8).nm≠nm)\/(0<=r/\∃i,i<fs.length/\(fs.getD i P8).nm=nm)):=by
  rcases hr with⟨rfl,h⟩|⟨i,rfl,h⟩
  ·exact .inl ⟨J6,h⟩
  exact .inr ⟨O0,i,h⟩
 have g:=U0 (j.out.later J);obtain⟨t2,B,f2⟩:=g.out.cells;by_cases F:r<0
 ·have f:Hid (Yh fs nm 4 []):=.inr (.inl ⟨u,by rcases t.out with h|h;exact h.2;omega,rfl,rfl⟩);go_wp2;refine o7 (v:=.tuple #[.agg #[vN],vI 4]) (by simp[results,results155,go_sem,B]) rfl ⟨⟨_,_,_,rfl,XK _ _,f⟩,g.out.bel.setCell O4 _⟩
 have f:Hid (Yh fs nm 0 (without fs nm)):=.inr (.inr ⟨u,by rcases t.out with h|h;omega;exact h.2,rfl,rfl⟩);have hneg':=y9 F
 go_wp2_with fail
 refine(c210 a d fs nm y H (X4 m g.out.bel)).mono ?_;rintro e w3⟨⟨v,rfl,E⟩,I⟩;have l:=U0 E;have x:=U0 (g.out.later I);have hz2:=g.out.sz;obtain⟨t3,A,f3⟩:=x.out.cells;obtain⟨L,K,D,_⟩:=l.out.form;subst D;go_wp2;refine o7 (v:=.tuple #[.agg #[vL L (without fs nm).length K],vO]) (by simp[results,results155,go_sem,A]) rfl ⟨⟨_,_,_,rfl,?_,f⟩,x.out.bel.setCell O4 _⟩;exact qA (b:=w.heap.size+1) (ig l O0) ((But.refl _ _).setCell _ _) (λe=>by have:=(l.out.lt _ e).1;omega)
theorem zu(h:Vk w B v fs){p:Nat}(hp:p<fs.length):∃g a,v=.slice (some ⟨g,0,none⟩) fs.length a/\B<=g/\fs.length<=a/\(∀i,i<fs.length->w.cell? ⟨g,i*2,none⟩=some (.string (fs.getD i P8).nm)/\w.cell? ⟨g,i*2+1,none⟩=some (.string (fs.getD i P8).tx))/\(∀j,w.frozen? ⟨g,j,none⟩=false)/\g<w.heap.size:=by
 have c:=h;rcases h.2 with⟨hv,h0⟩|⟨g,a,cur,hv,f,b,d,_⟩
 ·omega
 subst hv;refine⟨g,a,rfl,f,d,λi e=>?_,λj=>Lib.frozen_of_heap b j,Xf b⟩;obtain⟨e0,e1⟩:=Qd fs i e;rw[c.cellAt _ O0,c.cellAt _ O0];exact⟨e0,e1⟩
theorem sH(h:Pn w b n)(a:g≠b):Pn (w.setCell ⟨g,j,none⟩ v) b n:=by
 refine⟨by simpa using h.1,λi c=>?_,λi=>by have:=h.2.2 i;simpa using this⟩;rw[Qa _ _ _ _ (by intro e;injection e with e1 _;exact a e1)];exact h.2.1 i c
def ku(B:Nat)(w:World)(a:OA)(gs:List F2):Prop:=U5 w a gs/\(gs=[]\/∃g,a=some ⟨g,0,none⟩/\B<=g/\Pn w g gs.length/\JO w g)
theorem a3t(a:OA)(j:Nat)(fs:List F2)(nm:BY)(w:World)(hl:fs.length<=1048576)(x:∀i,(fs.getD i P8).le 1048576)(E:U5 w a fs):
 Calls prog 172 #[.agg #[.slice a fs.length j],.string nm] w λe w'=>(∃F cap' c gs,e=.returned (.tuple #[.agg #[.slice F gs.length cap'],.int .i64 c])/\ku w.heap.size w' F gs/\Yh fs nm c gs)/\Bw w w':=by
 have s:=U0 E;have HS:=U0 x;have t:Hid (Ai w ((w.alloc (.cells #[vL a fs.length j] 46)).alloc (.cells #[vN] 46)) (vL a fs.length j) vN):=Ai.start _ _ _;clear E x
 go_in
 go_wp2_with fail
 refine(a0Y a j fs _ hl HS.out (X4 s.out t.out.bel)).mono ?_;rintro e L⟨⟨v,rfl,hv⟩,D⟩;have r:=U0 hv;have o:=U0 (t.out.later D);obtain⟨t1,P,f1⟩:=o.out.cells;clear hv D t;cases v
 ·have l:Hid (Yh fs nm 1 []):=.inl ⟨λh=>(by have:=r.out.2 h;cases this),rfl,rfl⟩;clear r;go_wp2;refine o7 (v:=.tuple #[.agg #[vN],vI 1]) (by simp[results,results172,go_sem,P]) rfl ⟨⟨none,0,_,[],rfl,⟨.inl rfl,.inl rfl⟩,l.out⟩,o.out.bel.setCell O4 _⟩
 have A:=r.out.1 rfl;have B:=A.1;have m:=U0 A
 go_wp2_with fail
 refine(KU a j fs nm L B (X4 s o.out.bel) (Vh m)).mono ?_;rintro e K⟨⟨p,f,rfl,k⟩,hb2⟩;have H:=U0 k;have n:=U0 (o.out.later hb2);obtain⟨t2,O,f2⟩:=n.out.cells;cases f
 ·have l:Hid (Yh fs nm 4 []):=by
   refine .inr (.inl ⟨m,λi C e=>?_,rfl,rfl⟩);have k:=H.out;rcases P7 i p with h|h
   ·have:=k.less i h;rw[e,Uc]at this;cases this
   rcases P7 p i with h1|h1
   ·have h2:=Vh m p i h1 C;rw[e,k.more p Y8 O0]at h2;cases h2
   obtain rfl:i=p:=O0;have:=k.here.2 ⟨C,e⟩;cases this
  go_wp2;refine o7 (v:=.tuple #[.agg #[vN],vI 4]) (by simp[results,results172,go_sem,O]) rfl ⟨⟨none,0,_,[],rfl,⟨.inl rfl,.inl rfl⟩,l⟩,n.out.bel.setCell O4 _⟩
 obtain⟨d,y⟩:=H.out.here.1 rfl;have l:Hid (Yh fs nm 0 (del fs p)):=by
  refine .inr (.inr ⟨m,⟨p,d,y⟩,rfl,?_⟩);rw[<- y,Uw (Vh m.out) d]
 obtain⟨b,off,hc⟩:=o_ (X4 s.out n.out.bel);obtain⟨ha,Y,W⟩:=Zb hc d;subst ha;have HCE:=U0 W;have hz2:=n.out.sz
 go_wp2_with fail
 refine(c236 (some (aA b off)) j fs K O0 (.inr ⟨b,off,rfl,Y,HCE⟩)).mono ?_;rintro e J⟨v,rfl,z,hb3⟩;obtain⟨g,q,u,hg,R,X,U,S⟩:=zu z d;have H40:=U0 (JF z u);subst u;have H3:=U0 (n.out.later hb3);have HC3:=U0 X;have HF3:=U0 U
 go_wp2_with fail
 refine(a4Z g q fs p J B d R S HC3 HF3).mono ?_;rintro e w4⟨rfl,V,Q,Z,h44⟩;have HO4:=U0 (h44 H40);have I:=U0 (H3.out.but Z O0);have HFA:=U0 V;have HOP:=U0 Q;obtain⟨t4,N,f4⟩:=I.out.cells;go_wp2;refine o7 (v:=.tuple #[.agg #[vL (some (aA g 0)) (fs.length-1) q],vO]) (by simp[results,results172,go_sem,N]) rfl ⟨⟨some (aA g 0),q,0,del fs p,by rw[Zx d],⟨Pq HFA.out X7,.inr ⟨g,rfl,O0,?_⟩⟩,l.out⟩,I.out.bel.setCell O4 _⟩;rw[Zx d];exact⟨sH HOP O0,Ht HO4⟩
structure KAt(old:List F2)(nm:BY)(k:Nat):Prop where
 le:k<=old.length
 less:∀j,j<k->lt (old.getD j P8).nm nm=true
 stop:k=old.length\/lt (old.getD k P8).nm nm=false
theorem aY{old:List F2}{k k':Nat}(h:KAt old nm k)(a:KAt old nm k'):k=k':=by
 rcases Yw k k' with h1|h1|h1
 ·rcases h.stop with h2|h2
  ·have:=a.le;omega
  rw[a.less k h1]at h2;cases h2
 ·exact h1
 rcases a.stop with h2|h2
 ·have:=h.le;omega
 rw[h.less k' h1]at h2;cases h2
def ins(old:List F2)(k:Nat)(x:F2):List F2:=old.take k++x::old.drop k
theorem yE(old:List F2)(k:Nat)(x:F2)(h:k<=old.length):(ins old k x).length=old.length+1:=by
 unfold ins;rw[List.length_append,List.length_cons,List.length_take,List.length_drop];omega
def Ho(fs:List F2)(x:F2)(c:Int)(gs:List F2):Prop:=
 (¬A_ fs/\c=1/\gs=[])\/(A_ fs/\T_ x=false/\c=2/\gs=[])\/(A_ fs/\T_ x=true/\40<=(without fs x.nm).length/\c=3/\gs=[])\/(A_ fs/\T_ x=true/\(without fs x.nm).length<40/\c=0/\∃k,KAt (without fs x.nm) x.nm k/\gs=ins (without fs x.nm) k x)
theorem yG(h:Ho fs x c gs)(k:Ho fs x e d):e=c/\d=gs:=by
 rcases h with⟨h1,rfl,rfl⟩|⟨h1,h2,rfl,rfl⟩|⟨h1,h2,m,rfl,rfl⟩|⟨h1,h2,m,rfl,i,l,rfl⟩<;>rcases k with⟨a,rfl,rfl⟩|⟨a,b,rfl,rfl⟩|⟨a,b,f,rfl,rfl⟩|⟨a,b,f,rfl,j,g,rfl⟩
 all_goals first
  | exact⟨rfl,rfl⟩
  | exact absurd a h1
  | exact absurd h1 a
  | (exact absurd (h2.symm.trans b) J6)
  | (exfalso;omega)
  | (rw[aY l g];exact⟨rfl,rfl⟩)
theorem QS(h:Ho fs x c gs):gs.length<=40:=by
 rcases h with⟨h1,rfl,rfl⟩|⟨h1,h2,rfl,rfl⟩|⟨h1,h2,b,rfl,rfl⟩|⟨h1,h2,b,rfl,i,a,rfl⟩
 ·simp
 ·simp
 ·simp
 rw[yE _ _ _ a.le];omega
structure Be(w u:World)(t:Value)(x:F2)(r:Value):Prop where
 bel:Bw w u
 ht:u.heap[w.heap.size]?=some (.cells #[t] 46 (0,0))
 hf:u.heap[w.heap.size+1]?=some (.cells #[.string x.nm,.string x.tx] 166 (0,0))
 hr:u.heap[w.heap.size+1+1]?=some (.cells #[r] 46 (0,0))
theorem Be.start(w:World)(t:Value)(x:F2)(r:Value):Be w (((w.alloc (.cells #[t] 46)).alloc (.cells #[.string x.nm,.string x.tx] 166)).alloc (.cells #[r] 46)) t x r:=by
 refine⟨(P6.alloc O4 _).alloc X7 _,?_,?_,?_⟩
 ·rw[alloc_old X7,alloc_old O4];exact Ic rfl _
 ·rw[alloc_old O4];exact Ic O4 _
 exact Ic O4 _
theorem Be.sz(h:Be w u t x r):w.heap.size+3<=u.heap.size:=Xf h.hr
theorem Be.later(h:Be w u t x r)(a:Bw u u'):Be w u' t x r:=by
 have:=h.sz;exact⟨h.bel.trans (a.mono O0),by rw[a.block _ O0];exact h.ht,by rw[a.block _ O0];exact h.hf,by rw[a.block _ O0];exact h.hr⟩
theorem Be.but(h:Be w u t x r)(a:But g u u')(hg:w.heap.size+3<=g):Be w u' t x r:=by
 have:=h.sz;exact⟨h.bel.trans (a.below O0 O0),by rw[a.block _ O0 O0];exact h.ht,by rw[a.block _ O0 O0];exact h.hf,by rw[a.block _ O0 O0];exact h.hr⟩
theorem Be.cells(h:Be w u t x r):u.cell? ⟨w.heap.size,0,none⟩=some t/\u.cell? ⟨w.heap.size+1,0,none⟩=some (.string x.nm)/\u.cell? ⟨w.heap.size+1,1,none⟩=some (.string x.tx)/\u.cell? ⟨w.heap.size+1+1,0,none⟩=some r/\u.frozen? ⟨w.heap.size+1+1,0,none⟩=false:=
 ⟨by rw[Lib.cell_of_heap h.ht];rfl,by rw[Lib.cell_of_heap h.hf];rfl,by rw[Lib.cell_of_heap h.hf];rfl,by rw[Lib.cell_of_heap h.hr];rfl,Lib.frozen_of_heap h.hr 0⟩
theorem own_below(h:Vk w B v fs){n:Nat}(d:Below n w w')(a:∀k,v.ownBlock=some k->k<n):Vk w' B v fs:=by
 obtain⟨h1,h2⟩:=h;refine⟨h1,?_⟩;rcases h2 with h|⟨g,e,cur,hv,c,b,hr⟩
 ·exact .inl h
 exact .inr ⟨g,e,cur,hv,c,by rw[d.block g (a g (by rw[hv];rfl))];exact b,hr⟩
theorem UK{a:OA}{c:Nat}(h:Vk w B (.slice a n c) fs):fs.length<=c:=by
 rcases h.2 with⟨hv,h0⟩|⟨g,cap,cur,hv,hg,hh,hnc,_⟩
 ·omega
 injection hv with _ _ e;omega
theorem dM(b off i:Nat):(⟨b,off,none⟩:Addr).add i=⟨b,off+i,none⟩:=by unfold Addr.add;split<;>simp_all
