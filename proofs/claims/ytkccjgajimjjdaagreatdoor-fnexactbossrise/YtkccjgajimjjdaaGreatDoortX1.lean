import Derived.Test.YtkccjgajimjjdaaGreatDoortW4
import Derived.Lib.SliceRun
import Derived.Test.YtkccjgajimjjdaaGreatDoorMB
set_option linter.unusedVariables false
set_option maxHeartbeats 8000000
set_option maxRecDepth 100000
namespace Go.Proofs.YtkccjgajimjjdaaGreatDoor.T
open Proofs.Tryz Go.RowKit
variable{B b g i j n p:Nat}{u u' w w':World}{r t v:Value}{c e:Int}{d fs gs:List F2}{x:F2}{nm:BY}
theorem _root_.Go.Proofs.YtkccjgajimjjdaaGreatDoor.But.setCells(b:Nat):∀(vs:List Value)(o:Nat){w w':World},But b w w'->But b w (w'.setCells b o vs)
 | [],_,_,_,h=>h
 | v::vs,o,_,_,h=>But.setCells b vs (o+1) (h.setCell o v)
theorem _root_.Go.Proofs.YtkccjgajimjjdaaGreatDoor.But.drew(h:But b w w'):But b w w'.drew:=⟨h.os,h.tape,h.output,h.size,h.block⟩
def kP(w:World)(g:Nat):Prop:=∃c,w.heap[g]?=some (.cells c 67 (0,0))
theorem a2W(h:kP w g):Ah w g 67:=by
 obtain⟨c,h⟩:=h;exact⟨c,_,h⟩
theorem yu{q:Nat}(h:kP w g):kP (w.setCell ⟨q,j,none⟩ v) g:=by
 obtain⟨cur,h⟩:=h;by_cases e:q=g
 ·subst e;refine⟨cur.setIfInBounds j v,?_⟩;simp only[World.setCell];rw[Array.getElem?_modify];simp[h]
 exact⟨cur,(Ox _ _ _ _ (λk=>e k.symm)).trans h⟩
theorem Yj(g:Nat):∀(vs:List Value)(o:Nat){w:World}{b:Nat},kP w b->kP (w.setCells g o vs) b
 | [],_,_,_,h=>h
 | _::vs,o,_,_,h=>Yj g vs (o+1) (yu h)
theorem yE{c:Nat}(h:Ql w B v fs)(hv:v=.slice (some ⟨g,0,none⟩) n c):kP w g:=by
 rcases h.2 with⟨e,_⟩|⟨g',_,cur,e,_,a,_⟩
 ·rw[hv]at e;cases e
 rw[hv]at e;cases e;exact⟨cur,a⟩
theorem TJ(w:World)(ty:TypeId)(b o c:Nat)(h0:(w.cell? ⟨b,o,none⟩).isSome=true)(h1:(w.cell? ⟨b,o+1,none⟩).isSome=true)(hf:∀j,w.frozen? ⟨b,j,none⟩=false):
 (Builtin.clear_ #[38] ty #[.slice (some ⟨b,o,none⟩) 1 c]).run prog w=.ok (.tuple #[]) (w.setCells b o [.string ⟨#[]⟩,.string ⟨#[]⟩]):=by
 have d:(Builtin.zeroCells (Value.agg #[vE,vE]).cells 1).toList=[vE,vE]:=Y1;have a:=run_storeCells_cells (P:=prog) b o [vE,vE] 0 w (λj e=>by
  match j,e with
  | 0,_=>exact h0
  | 1,_=>exact h1) (λj _=>hf _) (by intro v hv;simp at hv;rw[hv];rfl)
 simp only[Qo]at a;simp[Builtin.clear_,Ws underlying38,d,a]
def del(fs:List F2)(p:Nat):List F2:=fs.take p++fs.drop (p+1)
theorem Hy(h:p<fs.length):(del fs p).length=fs.length-1:=by unfold del;rw[List.length_append,List.length_take,List.length_drop];omega
theorem LU(h:p<fs.length)(a:i<p):(del fs p).getD i G9=fs.getD i G9:=by
 unfold del;simp only[List.getD];rw[G_ (by rw[U_];omega),jA a]
theorem FT(h:p<fs.length)(hi:p<=i):(del fs p).getD i G9=(fs.drop (p+1)).getD (i-p) G9:=by
 unfold del;simp only[List.getD];rw[Ue (by rw[U_];omega),U_,Sr O0]
theorem jv(fs:List F2)(n i:Nat):(fs.drop n).getD i G9=fs.getD (n+i) G9:=by simp[List.getD]
theorem isSome_setCells(b:Nat):∀(vs:List Value)(o:Nat)(w:World)(x:Addr),(w.cell? x).isSome=true->((w.setCells b o vs).cell? x).isSome=true
 | [],_,_,_,h=>h
 | v::vs,o,w,x,h=>isSome_setCells b vs (o+1) _ x (by
  obtain⟨y,a⟩:=XJ.1 h;obtain⟨z,hz⟩:=cell?_setCell_some (w:=w) (p:=⟨b,o,none⟩) (x:=v) a;rw[hz];rfl)
theorem a5k(g cap:Nat)(fs:List F2)(p:Nat)(w:World)(hl:fs.length<=40)(m:p<fs.length)(hc:fs.length<=cap)(P:g<w.heap.size)(l:∀i,i<fs.length->w.cell? ⟨g,i*2,none⟩=some (.string (fs.getD i G9).nm)/\w.cell? ⟨g,i*2+1,none⟩=some (.string (fs.getD i G9).tx))(n:∀j,w.frozen? ⟨g,j,none⟩=false):
 Calls prog 230 #[.slice (some ⟨g,0,none⟩) fs.length cap,.int .i64 p,.int .i64 ((p:Int)+1)] w λe w'=>e=.returned (.slice (some ⟨g,0,none⟩) (fs.length-1) cap)/\G6 w' (some ⟨g,0,none⟩) (del fs p)/\zq w' g (fs.length-1)/\But g w w'/\(kP w g->kP w' g):=by
 obtain⟨L,d,hz0,N,hz2⟩:=info_parts Ov;have hne:((p:Int)==(p:Int)+1)=false:=V_.2 O0;have hpc:p<=cap:=O0;have hp0:(0:Int)<=(p:Int)+1:=O0;have hp1:(p:Int)+1<=(fs.length:Int):=O0;obtain⟨A,hA,J⟩:∃A:Addr,(if cap=p+1 then some (aA g 0) else some (aA g ((p+1)*2)))=some A/\Hid (∀j u,(U3 (fs.drop (p+1)))[j]?=some u->w.drew.cell? (A.add j)=some u):=by
  by_cases h:cap=p+1
  ·refine⟨_,by rw[L8 h],λj u k=>?_⟩;have h0:fs.drop (p+1)=[]:=List.drop_eq_nil_of_le O0;rw[h0]at k;simp[U3]at k
  refine⟨_,by rw[Y7 h],λj u k=>?_⟩;refine Yw (w:=w.drew) (fs:=fs.drop (p+1)) (b:=g) (off:=(p+1)*2) (λi d=>?_) j u k;rw[jk]at d;have:=l (p+1+i) O0;rw[jv,show(p+1)*2+i*2=(p+1+i)*2 by omega];exact this
 have o:∀j,j<fs.length*2->(w.cell? (aA g j)).isSome=true:=λj a=>by
  have:=l (j / 2) O0;rcases ZI j with h|h
  ·rw[show j=j / 2*2 by omega,this.1];rfl
  rw[show j=j / 2*2+1 by omega,this.2];rfl
 have s:Hid (∀j,j<(U3 (fs.drop (p+1))).length->(w.drew.cell? (aA g (0+p*2+j))).isSome=true/\w.drew.frozen? (aA g (0+p*2+j))=false):=λj a=>by
  rw[X8,jk]at a;exact⟨o _ O0,n _⟩
 have V:=U0 l;have R:=U0 n;have U:=U0 o;clear l n o
 go_in
 go_wp2_with fail
 refine wp_region_held_drew (S:=(λ_=>True)) Y1 ?_ λhHeld=>?_
 · ((try dsimp only);(try trivial))
 iterate 6 refine sq ?_
 refine rq 6 λK x=>?_;refine step_append_room rfl (.tmp 22) (.tmp 25) 38 rfl 67 L 2 underlying38 d N g 0 p cap rfl A (fs.length-(p+1)) (cap-(p+1)) (U3 (fs.drop (p+1))) rfl (by rw[X8,jk]) J.out He O0 s.out ?_;clear hHeld;refine A8 x ?_ λhHeld=>?_
 ·trivial
 clear x K;refine sq ?_;refine wdn ?_;have q:(U3 (fs.drop (p+1))).length=(fs.length-(p+1))*2:=by rw[X8,jk]
 have B:∀j,j<fs.length*2->((w.drew.setCells g (0+p*2) (U3 (fs.drop (p+1)))).cell? (aA g j)).isSome=true:=λj a=>isSome_setCells g _ _ _ _ (U.out j a);have C:∀j,(w.drew.setCells g (0+p*2) (U3 (fs.drop (p+1)))).frozen? (aA g j)=false:=λj=>(World.frozen?_setCells g _ _ _ _).trans (R.out j);have y:∀j,j<p*2->(w.drew.setCells g (0+p*2) (U3 (fs.drop (p+1)))).cell? (aA g j)=w.cell? (aA g j):=λj a=>World.cell?_setCells_out g _ _ _ _ (λ_ _=>.inl (by show j<0+p*2;omega));have z:∀j,j<(fs.length-(p+1))*2->(w.drew.setCells g (0+p*2) (U3 (fs.drop (p+1)))).cell? (aA g (p*2+j))=(U3 (fs.drop (p+1)))[j]?:=λj a=>by
  have:=World.cell?_setCells_in g (U3 (fs.drop (p+1))) (0+p*2) w.drew (λi d=>(s.out i d).1) j (by rw[q];exact a);rw[o9]at this ⊢;rw[this,L9 (by rw[q];exact a)]
 have Q:Hid (kP w g->kP (w.drew.setCells g (0+p*2) (U3 (fs.drop (p+1)))) g):=λh=>Yj _ _ _ h;have D:But g w (w.drew.setCells g (0+p*2) (U3 (fs.drop (p+1)))):=But.setCells g _ _ (But.refl _ _).drew;have H:=U0 y;have I:=U0 z;have r:=U0 B;have E:=U0 C;have F:=U0 D;clear B C y z D q s J hHeld;generalize w.drew.setCells g (0+p*2) (U3 (fs.drop (p+1)))=f at*;have O:p+(fs.length-(p+1))=fs.length-1:=O0;have hq1:fs.length-(fs.length-1)=1:=O0;have hq2:fs.length-1<=fs.length:=O0;have hq3:(p:Int)+((fs.length-(p+1):Nat):Int)=((fs.length-1:Nat):Int):=O0;have hcl:∀ty c,(Builtin.clear_ #[38] ty #[vL (some (aA g ((fs.length-1)*2))) 1 c]).run prog f=.ok (.tuple #[]) (f.setCells g ((fs.length-1)*2) [vE,vE]):=λty c=>
  TJ f ty g _ c (r.out _ O0) (r.out _ O0) E.out
 rw[O];go_wp2;have v:∀j,j<(fs.length-1)*2->(f.setCells g ((fs.length-1)*2) [vE,vE]).cell? (aA g j)=f.cell? (aA g j):=λj a=>World.cell?_setCells_out g _ _ _ _ (λ_ _=>.inl (by show j<(fs.length-1)*2;omega));have t:g<(f.setCells g ((fs.length-1)*2) [vE,vE]).heap.size:=U9 P (But.setCells g _ _ F.out).size;go_ret;refine⟨rfl,.inr ⟨g,0,rfl,t,λi d=>?_⟩,⟨t,λj a=>?_,λj=>(World.frozen?_setCells g _ _ _ _).trans (E.out j)⟩,But.setCells g _ _ F.out,λh=>Yj _ _ _ (Q.out h)⟩
 ·rw[Hy m]at d;rw[o9,v _ O0,v _ O0];rcases D8 i p with h|h
  ·rw[H.out _ O0,H.out _ O0,LU m h];exact V.out i O0
  obtain⟨e0,e1⟩:=Ee (fs.drop (p+1)) (i-p) (by rw[jk];omega);have h0:=I.out ((i-p)*2) O0;have h1:=I.out ((i-p)*2+1) O0;rw[show p*2+(i-p)*2=i*2 by omega,e0]at h0;rw[show p*2+((i-p)*2+1)=i*2+1 by omega,e1]at h1;rw[FT m h];exact⟨h0,h1⟩
 exact XJ.1 (isSome_setCells g _ _ _ _ (r.out j O0))
theorem Yh(h:G6 w (some ⟨B,0,none⟩) fs)(hz:B<w.heap.size)(hf:∀j,w.frozen? ⟨B,j,none⟩=false):zq w B fs.length:=by
 refine⟨hz,λj a=>?_,hf⟩;rcases h with h|⟨b,off,h1,h2,c⟩
 ·rw[h]at a;simp at a
 obtain⟨rfl,rfl⟩:B=b/\0=off:=by injection h1 with h1;injection h1 with e1 e2;exact⟨e1,e2⟩
 have:=c (j / 2) O0;simp only[o9]at this;rcases ZI j with h|h
 ·rw[show j=j / 2*2 by omega];exact⟨_,this.1⟩
 rw[show j=j / 2*2+1 by omega];exact⟨_,this.2⟩
theorem ne_of_lt'{a b:BY}(h:lt a b=true):a≠b:=λe=>by rw[e,Ud]at h;cases h
theorem a0d{x y:BY}(h:x≠y):(x.toList==y.toList)=false:=by
 rw[V_];intro e;rw[ByteArray.toList_eq,ByteArray.toList_eq]at e;exact h (Xf (Zl.1 e))
theorem getD_mem(h:x∈fs):∃i,i<fs.length/\fs.getD i G9=x:=by
 obtain⟨i,a,rfl⟩:=Ze h;exact⟨i,a,by simp[List.getD,L9 a]⟩
theorem filter_all(h:∀i,i<fs.length->(fs.getD i G9).nm≠nm):without fs nm=fs:=by
 unfold without;refine VI.2 λx hx=>?_;obtain⟨i,a,rfl⟩:=getD_mem hx;rw[a0d (h i a)];rfl
theorem WN(h:i<p):(fs.take p).getD i G9=fs.getD i G9:=by simp[List.getD,jA h]
theorem Zx(hm:Asc fs)(b:p<fs.length):without fs (fs.getD p G9).nm=del fs p:=by
 have e:fs=fs.take p++fs.getD p G9::fs.drop (p+1):=by
  conv=>lhs;rw[<- um (p+1) fs,Pj b]
  simp
 have h1:without (fs.take p) (fs.getD p G9).nm=fs.take p:=filter_all λi a=>by
  rw[U_]at a;rw[WN O0];exact ne_of_lt' (hm i p O0 b)
 have h2:without (fs.drop (p+1)) (fs.getD p G9).nm=fs.drop (p+1):=filter_all λi a=>by
  rw[jk]at a;rw[jv];exact(ne_of_lt' (hm p (p+1+i) O0 O0)).symm
 have c:without (fs.take p++fs.getD p G9::fs.drop (p+1)) (fs.getD p G9).nm=without (fs.take p) (fs.getD p G9).nm++without (fs.drop (p+1)) (fs.getD p G9).nm:=by
  unfold without;rw[Zu,List.filter_cons_of_neg E5]
 rw[<- e,h1,h2]at c;exact c
def aj(fs:List F2)(nm:BY)(c:Int)(gs:List F2):Prop:=
 (¬D_ fs/\c=1/\gs=[])\/(D_ fs/\(∀i,i<fs.length->(fs.getD i G9).nm≠nm)/\c=4/\gs=[])\/(D_ fs/\(∃i,i<fs.length/\(fs.getD i G9).nm=nm)/\c=0/\gs=without fs nm)
theorem oD(h:aj fs nm c gs)(k:aj fs nm e d):e=c/\d=gs:=by
 rcases h with⟨h1,rfl,rfl⟩|⟨h1,h2,rfl,rfl⟩|⟨h1,⟨i,g,h2⟩,rfl,rfl⟩<;>rcases k with⟨a,rfl,rfl⟩|⟨a,b,rfl,rfl⟩|⟨a,⟨j,f,b⟩,rfl,rfl⟩
 ·exact⟨rfl,rfl⟩
 ·exact absurd a h1
 ·exact absurd a h1
 ·exact absurd h1 a
 ·exact⟨rfl,rfl⟩
 ·exact absurd b (h2 j f)
 ·exact absurd h1 a
 ·exact absurd h2 (b i g)
 exact⟨rfl,rfl⟩
theorem oO(h:aj fs nm c gs):gs.length<=40:=by
 rcases h with⟨h1,rfl,rfl⟩|⟨h1,h2,rfl,rfl⟩|⟨h1,h2,rfl,rfl⟩
 ·simp
 ·simp
 exact I8 (Vx _ _) h1.1
theorem Ag{B':Nat}{e:TypeId}{size:Nat}{xs:List Value}(h:w.ownsRow B e size v n xs)(hB:B'<=B):w.ownsRow B' e size v n xs:=by
 refine⟨h.1,?_⟩;rcases h.2 with h2|⟨g,cap,cur,hv,a,r⟩
 ·exact .inl h2
 exact .inr ⟨g,cap,cur,hv,I8 hB a,r⟩
theorem fM(w:World)(B:Nat):Ql w B (.slice none 0 0) []:=⟨rfl,.inl ⟨rfl,rfl⟩⟩
structure Yi(w u:World)(t r:Value):Prop where
 bel:Bw w u
 ht:u.heap[w.heap.size]?=some (.cells #[t] 40 (0,0))
 hr:u.heap[w.heap.size+1]?=some (.cells #[r] 40 (0,0))
theorem Yi.start(w:World)(t r:Value):Yi w ((w.alloc (.cells #[t] 40)).alloc (.cells #[r] 40)) t r:=
 ⟨Y6.alloc E5 _,by rw[alloc_old E5];exact Xc rfl _,Xc E5 _⟩
theorem Yi.sz(h:Yi w u t r):w.heap.size+2<=u.heap.size:=mg h.hr
theorem Yi.later(h:Yi w u t r)(a:Bw u u'):Yi w u' t r:=by
 have:=h.sz;exact⟨h.bel.trans (a.mono O0),by rw[a.block _ O0];exact h.ht,by rw[a.block _ O0];exact h.hr⟩
theorem Yi.but(h:Yi w u t r)(a:But g u u')(hg:w.heap.size+2<=g):Yi w u' t r:=by
 have:=h.sz;exact⟨h.bel.trans (a.below O0 O0),by rw[a.block _ O0 O0];exact h.ht,by rw[a.block _ O0 O0];exact h.hr⟩
theorem Yi.cells(h:Yi w u t r):u.cell? ⟨w.heap.size,0,none⟩=some t/\u.cell? ⟨w.heap.size+1,0,none⟩=some r/\u.frozen? ⟨w.heap.size+1,0,none⟩=false:=
 ⟨by rw[Lib.cell_of_heap h.ht];rfl,by rw[Lib.cell_of_heap h.hr];rfl,Lib.frozen_of_heap h.hr 0⟩
theorem c130(a:OA)(cap:Nat)(fs:List F2)(nm:BY)(w:World)(hl:fs.length<=1048576)(n:∀i,(fs.getD i G9).le 1048576)(q:G6 w a fs):
 Calls prog 130 #[.agg #[.slice a fs.length cap],.string nm] w λe w'=>(∃v c gs,e=.returned (.tuple #[.agg #[v],.int .i64 c])/\Ql w' w.heap.size v gs/\aj fs nm c gs)/\Bw w w':=by
 have l:=U0 q;have K:=U0 n;have m:Hid (Yi w ((w.alloc (.cells #[vL a fs.length cap] 40)).alloc (.cells #[vN] 40)) (vL a fs.length cap) vN):=Yi.start _ _ _;clear q n
 go_in
 go_wp2_with fail
 refine(a0G a cap fs _ hl K.out (U5 l.out m.out.bel)).mono ?_;rintro e w1⟨⟨v,rfl,hv⟩,p⟩;have j:=U0 hv;have g:=U0 (m.out.later p);obtain⟨t1,A,f1⟩:=g.out.cells;clear hv p m;cases v
 ·have d:Hid (aj fs nm 1 []):=.inl ⟨λh=>(by have:=j.out.2 h;cases this),rfl,rfl⟩;clear j;go_wp2;refine Q7 (v:=.tuple #[.agg #[vN],vI 1]) (by simp[results,results130,go_sem,A]) rfl ⟨⟨_,_,_,rfl,fM _ _,d.out⟩,g.out.bel.setCell E5 _⟩
 have o:=j.out.1 rfl;have E:=o.1;have t:=U0 o
 go_wp2_with fail
 refine(a0R a cap fs nm w1 O0 (U5 l g.out.bel)).mono ?_;rintro e x⟨⟨r,rfl,hr⟩,H⟩;have s:Hid ((r<0/\∀i,i<fs.length->(fs.getD i G9).nm≠nm)\/(0<=r/\∃i,i<fs.length/\(fs.getD i G9).nm=nm)):=by
  rcases hr with⟨rfl,h⟩|⟨i,rfl,h⟩
  ·exact .inl ⟨Z5,h⟩
  exact .inr ⟨O0,i,h⟩
 have f:=U0 (g.out.later H);obtain⟨t2,z,f2⟩:=f.out.cells;by_cases D:r<0
 ·have d:Hid (aj fs nm 4 []):=.inr (.inl ⟨t,by rcases s.out with h|h;exact h.2;omega,rfl,rfl⟩);go_wp2;refine Q7 (v:=.tuple #[.agg #[vN],vI 4]) (by simp[results,results130,go_sem,z]) rfl ⟨⟨_,_,_,rfl,fM _ _,d⟩,f.out.bel.setCell E5 _⟩
 have d:Hid (aj fs nm 0 (without fs nm)):=.inr (.inr ⟨t,by rcases s.out with h|h;omega;exact h.2,rfl,rfl⟩);have hneg':=o_ D
 go_wp2_with fail
 refine(c175 a cap fs nm x E (U5 l f.out.bel)).mono ?_;rintro e w3⟨⟨v,rfl,C⟩,F⟩;have k:=U0 C;have u:=U0 (f.out.later F);have hz2:=f.out.sz;obtain⟨t3,y,f3⟩:=u.out.cells;obtain⟨J,I,B,_⟩:=k.out.form;subst B;go_wp2;refine Q7 (v:=.tuple #[.agg #[vL J (without fs nm).length I],vO]) (by simp[results,results130,go_sem,y]) rfl ⟨⟨_,_,_,rfl,?_,d⟩,u.out.bel.setCell E5 _⟩;exact Fz (b:=w.heap.size+1) (Ag k O0) ((But.refl _ _).setCell _ _) (λe=>by have:=(k.out.lt _ e).1;omega)
theorem Nv(h:Ql w B v fs){p:Nat}(hp:p<fs.length):∃g cap,v=.slice (some ⟨g,0,none⟩) fs.length cap/\B<=g/\fs.length<=cap/\(∀i,i<fs.length->w.cell? ⟨g,i*2,none⟩=some (.string (fs.getD i G9).nm)/\w.cell? ⟨g,i*2+1,none⟩=some (.string (fs.getD i G9).tx))/\(∀j,w.frozen? ⟨g,j,none⟩=false)/\g<w.heap.size:=by
 have b:=h;rcases h.2 with⟨hv,h0⟩|⟨g,cap,cur,hv,e,a,c,_⟩
 ·omega
 subst hv;refine⟨g,cap,rfl,e,c,λi d=>?_,λj=>Lib.frozen_of_heap a j,mg a⟩;obtain⟨e0,e1⟩:=Ee fs i d;rw[b.cellAt _ O0,b.cellAt _ O0];exact⟨e0,e1⟩
theorem LH(h:zq w b n)(a:g≠b):zq (w.setCell ⟨g,j,none⟩ v) b n:=by
 refine⟨by simpa using h.1,λi c=>?_,λi=>by have:=h.2.2 i;simpa using this⟩;rw[Xb _ _ _ _ (by intro e;injection e with e1 _;exact a e1)];exact h.2.1 i c
def qo(B:Nat)(w:World)(a:OA)(gs:List F2):Prop:=G6 w a gs/\(gs=[]\/∃g,a=some ⟨g,0,none⟩/\B<=g/\zq w g gs.length/\kP w g)
theorem a3j(a:OA)(cap:Nat)(fs:List F2)(nm:BY)(w:World)(hl:fs.length<=1048576)(u:∀i,(fs.getD i G9).le 1048576)(D:G6 w a fs):
 Calls prog 189 #[.agg #[.slice a fs.length cap],.string nm] w λe w'=>(∃E cap' c gs,e=.returned (.tuple #[.agg #[.slice E gs.length cap'],.int .i64 c])/\qo w.heap.size w' E gs/\aj fs nm c gs)/\Bw w w':=by
 have r:=U0 D;have HS:=U0 u;have s:Hid (Yi w ((w.alloc (.cells #[vL a fs.length cap] 40)).alloc (.cells #[vN] 40)) (vL a fs.length cap) vN):=Yi.start _ _ _;clear D u
 go_in
 go_wp2_with fail
 refine(c152 a cap fs _ hl HS.out (U5 r.out s.out.bel)).mono ?_;rintro e w1⟨⟨v,rfl,hv⟩,C⟩;have q:=U0 hv;have n:=U0 (s.out.later C);obtain⟨t1,N,f1⟩:=n.out.cells;clear hv C s;cases v
 ·have k:Hid (aj fs nm 1 []):=.inl ⟨λh=>(by have:=q.out.2 h;cases this),rfl,rfl⟩;clear q;go_wp2;refine Q7 (v:=.tuple #[.agg #[vN],vI 1]) (by simp[results,results189,go_sem,N]) rfl ⟨⟨none,0,_,[],rfl,⟨.inl rfl,.inl rfl⟩,k.out⟩,n.out.bel.setCell E5 _⟩
 have z:=q.out.1 rfl;have A:=z.1;have l:=U0 z
 go_wp2_with fail
 refine(vW a cap fs nm w1 A (U5 r n.out.bel) (Si l)).mono ?_;rintro e J⟨⟨p,f,rfl,j⟩,Z⟩;have F:=U0 j;have m:=U0 (n.out.later Z);obtain⟨t2,L,f2⟩:=m.out.cells;cases f
 ·have k:Hid (aj fs nm 4 []):=by
   refine .inr (.inl ⟨l,λi B e=>?_,rfl,rfl⟩);have j:=F.out;rcases D8 i p with h|h
   ·have:=j.less i h;rw[e,Ud]at this;cases this
   rcases D8 p i with h1|h1
   ·have h2:=Si l p i h1 B;rw[e,j.more p X7 O0]at h2;cases h2
   obtain rfl:i=p:=O0;have:=j.here.2 ⟨B,e⟩;cases this
  go_wp2;refine Q7 (v:=.tuple #[.agg #[vN],vI 4]) (by simp[results,results189,go_sem,L]) rfl ⟨⟨none,0,_,[],rfl,⟨.inl rfl,.inl rfl⟩,k⟩,m.out.bel.setCell E5 _⟩
 obtain⟨d,x⟩:=F.out.here.1 rfl;have k:Hid (aj fs nm 0 (del fs p)):=by
  refine .inr (.inr ⟨l,⟨p,d,x⟩,rfl,?_⟩);rw[<- x,Zx (Si l.out) d]
 obtain⟨b,off,hc⟩:=v_ (U5 r.out m.out.bel);obtain⟨ha,W,U⟩:=Jd hc d;subst ha;have HCE:=U0 U;have hz2:=m.out.sz
 go_wp2_with fail
 refine(a1s (some (aA b off)) cap fs J O0 (.inr ⟨b,off,rfl,W,HCE⟩)).mono ?_;rintro e I⟨v,rfl,y,Y⟩;obtain⟨g,o,t,hg,P,V,R,Q⟩:=Nv y d;have H40:=U0 (yE y t);subst t;have H3:=U0 (m.out.later Y);have HC3:=U0 V;have HF3:=U0 R
 go_wp2_with fail
 refine(a5k g o fs p I A d P Q HC3 HF3).mono ?_;rintro e w4⟨rfl,S,O,X,h44⟩;have HO4:=U0 (h44 H40);have H:=U0 (H3.out.but X O0);have HFA:=U0 S;have HOP:=U0 O;obtain⟨t4,K,f4⟩:=H.out.cells;go_wp2;refine Q7 (v:=.tuple #[.agg #[vL (some (aA g 0)) (fs.length-1) o],vO]) (by simp[results,results189,go_sem,K]) rfl ⟨⟨some (aA g 0),o,0,del fs p,by rw[Hy d],⟨Xr HFA.out Q8,.inr ⟨g,rfl,O0,?_⟩⟩,k.out⟩,H.out.bel.setCell E5 _⟩;rw[Hy d];exact⟨LH HOP O0,yu HO4⟩
structure KAt(old:List F2)(nm:BY)(k:Nat):Prop where
 le:k<=old.length
 less:∀j,j<k->lt (old.getD j G9).nm nm=true
 stop:k=old.length\/lt (old.getD k G9).nm nm=false
theorem TV{old:List F2}{k k':Nat}(h:KAt old nm k)(a:KAt old nm k'):k=k':=by
 rcases Uw k k' with h1|h1|h1
 ·rcases h.stop with h2|h2
  ·have:=a.le;omega
  rw[a.less k h1]at h2;cases h2
 ·exact h1
 rcases a.stop with h2|h2
 ·have:=h.le;omega
 rw[h.less k' h1]at h2;cases h2
def ins(old:List F2)(k:Nat)(x:F2):List F2:=old.take k++x::old.drop k
theorem wF(old:List F2)(k:Nat)(x:F2)(h:k<=old.length):(ins old k x).length=old.length+1:=by
 unfold ins;rw[List.length_append,List.length_cons,List.length_take,List.length_drop];omega
def Vp(fs:List F2)(x:F2)(c:Int)(gs:List F2):Prop:=
 (¬D_ fs/\c=1/\gs=[])\/(D_ fs/\Xa x=false/\c=2/\gs=[])\/(D_ fs/\Xa x=true/\40<=(without fs x.nm).length/\c=3/\gs=[])\/(D_ fs/\Xa x=true/\(without fs x.nm).length<40/\c=0/\∃k,KAt (without fs x.nm) x.nm k/\gs=ins (without fs x.nm) k x)
theorem BH(h:Vp fs x c gs)(k:Vp fs x e d):e=c/\d=gs:=by
 rcases h with⟨h1,rfl,rfl⟩|⟨h1,h2,rfl,rfl⟩|⟨h1,h2,m,rfl,rfl⟩|⟨h1,h2,m,rfl,i,l,rfl⟩<;>rcases k with⟨a,rfl,rfl⟩|⟨a,b,rfl,rfl⟩|⟨a,b,f,rfl,rfl⟩|⟨a,b,f,rfl,j,g,rfl⟩
 all_goals first
  | exact⟨rfl,rfl⟩
  | exact absurd a h1
  | exact absurd h1 a
  | (exact absurd (h2.symm.trans b) Z5)
  | (exfalso;omega)
  | (rw[TV l g];exact⟨rfl,rfl⟩)
theorem TU(h:Vp fs x c gs):gs.length<=40:=by
 rcases h with⟨h1,rfl,rfl⟩|⟨h1,h2,rfl,rfl⟩|⟨h1,h2,b,rfl,rfl⟩|⟨h1,h2,b,rfl,i,a,rfl⟩
 ·simp
 ·simp
 ·simp
 rw[wF _ _ _ a.le];omega
structure Ve(w u:World)(t:Value)(x:F2)(r:Value):Prop where
 bel:Bw w u
 ht:u.heap[w.heap.size]?=some (.cells #[t] 40 (0,0))
 hf:u.heap[w.heap.size+1]?=some (.cells #[.string x.nm,.string x.tx] 67 (0,0))
 hr:u.heap[w.heap.size+1+1]?=some (.cells #[r] 40 (0,0))
theorem Ve.start(w:World)(t:Value)(x:F2)(r:Value):Ve w (((w.alloc (.cells #[t] 40)).alloc (.cells #[.string x.nm,.string x.tx] 67)).alloc (.cells #[r] 40)) t x r:=by
 refine⟨(Y6.alloc E5 _).alloc Q8 _,?_,?_,?_⟩
 ·rw[alloc_old Q8,alloc_old E5];exact Xc rfl _
 ·rw[alloc_old E5];exact Xc E5 _
 exact Xc E5 _
theorem Ve.sz(h:Ve w u t x r):w.heap.size+3<=u.heap.size:=mg h.hr
theorem Ve.later(h:Ve w u t x r)(a:Bw u u'):Ve w u' t x r:=by
 have:=h.sz;exact⟨h.bel.trans (a.mono O0),by rw[a.block _ O0];exact h.ht,by rw[a.block _ O0];exact h.hf,by rw[a.block _ O0];exact h.hr⟩
theorem Ve.but(h:Ve w u t x r)(a:But g u u')(hg:w.heap.size+3<=g):Ve w u' t x r:=by
 have:=h.sz;exact⟨h.bel.trans (a.below O0 O0),by rw[a.block _ O0 O0];exact h.ht,by rw[a.block _ O0 O0];exact h.hf,by rw[a.block _ O0 O0];exact h.hr⟩
theorem Ve.cells(h:Ve w u t x r):u.cell? ⟨w.heap.size,0,none⟩=some t/\u.cell? ⟨w.heap.size+1,0,none⟩=some (.string x.nm)/\u.cell? ⟨w.heap.size+1,1,none⟩=some (.string x.tx)/\u.cell? ⟨w.heap.size+1+1,0,none⟩=some r/\u.frozen? ⟨w.heap.size+1+1,0,none⟩=false:=
 ⟨by rw[Lib.cell_of_heap h.ht];rfl,by rw[Lib.cell_of_heap h.hf];rfl,by rw[Lib.cell_of_heap h.hf];rfl,by rw[Lib.cell_of_heap h.hr];rfl,Lib.frozen_of_heap h.hr 0⟩
theorem own_below(h:Ql w B v fs){n:Nat}(d:Below n w w')(a:∀k,v.ownBlock=some k->k<n):Ql w' B v fs:=by
 obtain⟨h1,h2⟩:=h;refine⟨h1,?_⟩;rcases h2 with h|⟨g,cap,cur,hv,c,b,hr⟩
 ·exact .inl h
 exact .inr ⟨g,cap,cur,hv,c,by rw[d.block g (a g (by rw[hv];rfl))];exact b,hr⟩
theorem VL{a:OA}{c:Nat}(h:Ql w B (.slice a n c) fs):fs.length<=c:=by
 rcases h.2 with⟨hv,h0⟩|⟨g,cap,cur,hv,hg,hh,hnc,_⟩
 ·omega
 injection hv with _ _ e;omega
theorem QN(b off i:Nat):(⟨b,off,none⟩:Addr).add i=⟨b,off+i,none⟩:=by unfold Addr.add;split<;>simp_all
