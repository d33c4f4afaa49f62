import Derived.Test.YtdgneicbmalnpaaGreatDoortW4
import Derived.Test.YtdgneicbmalnpaaGreatDoorMB
import Derived.Test.YtdgneicbmalnpaaGreatDooryF
set_option linter.all false
set_option maxHeartbeats 0
set_option maxRecDepth 99999
open Go.Value renaming slice->Sa,string->Sb,int->Sc,pointer->Sd
open Go.IntKind renaming i64->Se
open Go.Ending renaming returned->Sf
open Go.Obj renaming cells->Sg
namespace Go.Proofs.YtdgneicbmalnpaaGreatDoor.T
open Proofs.Tryz Go.RowKit
variable{B b g i j n p:Nat}{u u' w w':World}{r t v:Value}{c e:Int}{d fs gs:List F2}{x:F2}{nm:BY}
theorem _root_.Go.Proofs.YtdgneicbmalnpaaGreatDoor.But.setCells(b:Nat):∀(vs:List Value)(o:Nat){w w':World},But b w w'->But b w (w'.setCells b o vs)
 | [],_,_,_,h=>h
 | v::vs,o,_,_,h=>But.setCells b vs (o+1) (h.setCell o v)
theorem _root_.Go.Proofs.YtdgneicbmalnpaaGreatDoor.But.drew(h:But b w w'):But b w w'.drew:=⟨h.os,h.tape,h.output,h.size,h.block⟩
def bQ(w:World)(g:Nat):Prop:=∃c,w.heap[g]?=some (Sg c 169 (0,0))
theorem a2Q(h:bQ w g):oh w g 169:=by
 obtain⟨c,h⟩:=h;exact⟨c,_,h⟩
theorem Xv{q:Nat}(h:bQ w g):bQ (w.setCell ⟨q,j,none⟩ v) g:=by
 obtain⟨cur,h⟩:=h;by_cases e:q=g
 ·subst e;refine⟨cur.setIfInBounds j v,?_⟩;simp only[World.setCell];rw[Array.getElem?_modify];simp[h]
 exact⟨cur,(ou _ _ _ _ (λk=>e k.symm)).trans h⟩
theorem Dk(g:Nat):∀(vs:List Value)(o:Nat){w:World}{b:Nat},bQ w b->bQ (w.setCells g o vs) b
 | [],_,_,_,h=>h
 | _::vs,o,_,_,h=>Dk g vs (o+1) (Xv h)
theorem uG{c:Nat}(h:Um w B v fs)(hv:v=Sa (some ⟨g,0,none⟩) n c):bQ w g:=by
 rcases h.2 with⟨e,_⟩|⟨g',_,cur,e,_,a,_⟩
 ·rw[hv]at e;cases e
 rw[hv]at e;cases e;exact⟨cur,a⟩
theorem mJ(w:World)(ty:TypeId)(b o c:Nat)(h0:(w.cell? ⟨b,o,none⟩).isSome=true)(h1:(w.cell? ⟨b,o+1,none⟩).isSome=true)(hf:∀j,w.frozen? ⟨b,j,none⟩=false):
 (Builtin.clear_ #[38] ty #[Sa (some ⟨b,o,none⟩) 1 c]).run prog w=.ok (.tuple #[]) (w.setCells b o [Sb ⟨#[]⟩,Sb ⟨#[]⟩]):=by
 have d:(Builtin.zeroCells (Value.agg #[vE,vE]).cells 1).toList=[vE,vE]:=Y0;have a:=run_storeCells_cells (P:=prog) b o [vE,vE] 0 w (λj e=>by
  match j,e with
  | 0,_=>exact h0
  | 1,_=>exact h1) (λj _=>hf _) (by intro v hv;simp at hv;rw[hv];rfl)
 simp only[Zo]at a;simp[Builtin.clear_,Zt underlying38,d,a]
def del(fs:List F2)(p:Nat):List F2:=fs.take p++fs.drop (p+1)
theorem Oz(h:p<fs.length):(del fs p).length=fs.length-1:=by unfold del;rw[List.length_append,List.length_take,List.length_drop];omega
theorem DR(h:p<fs.length)(a:i<p):(del fs p).getD i o9=fs.getD i o9:=by
 unfold del;simp only[List.getD];rw[D_ (by rw[L_];omega),zC a]
theorem JV(h:p<fs.length)(hi:p<=i):(del fs p).getD i o9=(fs.drop (p+1)).getD (i-p) o9:=by
 unfold del;simp only[List.getD];rw[Yf (by rw[L_];omega),L_,Ot O0]
theorem Zw(fs:List F2)(n i:Nat):(fs.drop n).getD i o9=fs.getD (n+i) o9:=by simp[List.getD]
theorem isSome_setCells(b:Nat):∀(vs:List Value)(o:Nat)(w:World)(x:Addr),(w.cell? x).isSome=true->((w.setCells b o vs).cell? x).isSome=true
 | [],_,_,_,h=>h
 | v::vs,o,w,x,h=>isSome_setCells b vs (o+1) _ x (by
  obtain⟨y,a⟩:=yQ.1 h;obtain⟨z,hz⟩:=cell?_setCell_some (w:=w) (p:=⟨b,o,none⟩) (x:=v) a;rw[hz];rfl)
theorem a6C(g cap:Nat)(fs:List F2)(p:Nat)(w:World)(hl:fs.length<=40)(m:p<fs.length)(hc:fs.length<=cap)(O:g<w.heap.size)(l:∀i,i<fs.length->w.cell? ⟨g,i*2,none⟩=some (Sb (fs.getD i o9).nm)/\w.cell? ⟨g,i*2+1,none⟩=some (Sb (fs.getD i o9).tx))(n:∀j,w.frozen? ⟨g,j,none⟩=false):
 Calls prog 264 #[Sa (some ⟨g,0,none⟩) fs.length cap,Sc Se p,Sc Se ((p:Int)+1)] w λe w'=>e=Sf (Sa (some ⟨g,0,none⟩) (fs.length-1) cap)/\P6 w' (some ⟨g,0,none⟩) (del fs p)/\Rq w' g (fs.length-1)/\But g w w'/\(bQ w g->bQ w' g):=by
 obtain⟨J,d,hz0,L,hz2⟩:=info_parts Nr;have hne:((p:Int)==(p:Int)+1)=false:=S_.2 O0;have hpc:p<=cap:=O0;have hp0:(0:Int)<=(p:Int)+1:=O0;have hp1:(p:Int)+1<=(fs.length:Int):=O0;obtain⟨A,hA,I⟩:∃A:Addr,(if cap=p+1 then some (aA g 0) else some (aA g ((p+1)*2)))=some A/\Hid (∀j u,(J3 (fs.drop (p+1)))[j]?=some u->w.drew.cell? (A.add j)=some u):=by
  by_cases h:cap=p+1
  ·refine⟨_,by rw[D8 h],λj u k=>?_⟩;have h0:fs.drop (p+1)=[]:=List.drop_eq_nil_of_le O0;rw[h0]at k;simp[J3]at k
  refine⟨_,by rw[U7 h],λj u k=>?_⟩;refine Qy (w:=w.drew) (fs:=fs.drop (p+1)) (b:=g) (off:=(p+1)*2) (λi d=>?_) j u k;rw[Oj]at d;have:=l (p+1+i) O0;rw[Zw,show(p+1)*2+i*2=(p+1+i)*2 by omega];exact this
 have o:∀j,j<fs.length*2->(w.cell? (aA g j)).isSome=true:=λj a=>by
  have:=l (j / 2) O0;rcases tJ j with h|h
  ·rw[show j=j / 2*2 by omega,this.1];rfl
  rw[show j=j / 2*2+1 by omega,this.2];rfl
 have r:Hid (∀j,j<(J3 (fs.drop (p+1))).length->(w.drew.cell? (aA g (0+p*2+j))).isSome=true/\w.drew.frozen? (aA g (0+p*2+j))=false):=λj a=>by
  rw[Q8,Oj]at a;exact⟨o _ O0,n _⟩
 have U:=U0 l;have Q:=U0 n;have R:=U0 o;clear l n o
 go_in
 go_wp2_with fail
 refine wp_region_held_drew (S:=(λ_=>True)) Y0 ?_ λhHeld=>?_
 · ((try dsimp only);(try trivial))
 iterate 6 refine sq ?_
 refine rq 6 λK v=>?_;refine step_append_room rfl (.tmp 22) (.tmp 25) 38 rfl 169 J 2 underlying38 d L g 0 p cap rfl A (fs.length-(p+1)) (cap-(p+1)) (J3 (fs.drop (p+1))) rfl (by rw[Q8,Oj]) I.o Be O0 r.o ?_;clear hHeld;refine G9 v ?_ λhHeld=>?_
 ·trivial
 clear v K;refine sq ?_;refine wdn ?_;have hD:(J3 (fs.drop (p+1))).length=(fs.length-(p+1))*2:=by rw[Q8,Oj]
 have z:∀j,j<fs.length*2->((w.drew.setCells g (0+p*2) (J3 (fs.drop (p+1)))).cell? (aA g j)).isSome=true:=λj a=>isSome_setCells g _ _ _ _ (R.o j a);have B:∀j,(w.drew.setCells g (0+p*2) (J3 (fs.drop (p+1)))).frozen? (aA g j)=false:=λj=>(World.frozen?_setCells g _ _ _ _).trans (Q.o j);have x:∀j,j<p*2->(w.drew.setCells g (0+p*2) (J3 (fs.drop (p+1)))).cell? (aA g j)=w.cell? (aA g j):=λj a=>World.cell?_setCells_out g _ _ _ _ (λ_ _=>.inl (by show j<0+p*2;omega));have y:∀j,j<(fs.length-(p+1))*2->(w.drew.setCells g (0+p*2) (J3 (fs.drop (p+1)))).cell? (aA g (p*2+j))=(J3 (fs.drop (p+1)))[j]?:=λj a=>by
  have:=World.cell?_setCells_in g (J3 (fs.drop (p+1))) (0+p*2) w.drew (λi d=>(r.o i d).1) j (by rw[hD];exact a);rw[Y8]at this ⊢;rw[this,V8 (by rw[hD];exact a)]
 have P:Hid (bQ w g->bQ (w.drew.setCells g (0+p*2) (J3 (fs.drop (p+1)))) g):=λh=>Dk _ _ _ h;have C:But g w (w.drew.setCells g (0+p*2) (J3 (fs.drop (p+1)))):=But.setCells g _ _ (But.refl _ _).drew;have F:=U0 x;have H:=U0 y;have q:=U0 z;have D:=U0 B;have E:=U0 C;clear z B x y C hD r I hHeld;generalize w.drew.setCells g (0+p*2) (J3 (fs.drop (p+1)))=f at*;have N:p+(fs.length-(p+1))=fs.length-1:=O0;have hq1:fs.length-(fs.length-1)=1:=O0;have hq2:fs.length-1<=fs.length:=O0;have hq3:(p:Int)+((fs.length-(p+1):Nat):Int)=((fs.length-1:Nat):Int):=O0;have hcl:∀ty c,(Builtin.clear_ #[38] ty #[vL (some (aA g ((fs.length-1)*2))) 1 c]).run prog f=.ok (.tuple #[]) (f.setCells g ((fs.length-1)*2) [vE,vE]):=λty c=>
  mJ f ty g _ c (q.o _ O0) (q.o _ O0) D.o
 rw[N];go_wp2;have t:∀j,j<(fs.length-1)*2->(f.setCells g ((fs.length-1)*2) [vE,vE]).cell? (aA g j)=f.cell? (aA g j):=λj a=>World.cell?_setCells_out g _ _ _ _ (λ_ _=>.inl (by show j<(fs.length-1)*2;omega));have s:g<(f.setCells g ((fs.length-1)*2) [vE,vE]).heap.size:=P9 O (But.setCells g _ _ E.o).size;go_ret;refine⟨rfl,.inr ⟨g,0,rfl,s,λi d=>?_⟩,⟨s,λj a=>?_,λj=>(World.frozen?_setCells g _ _ _ _).trans (D.o j)⟩,But.setCells g _ _ E.o,λh=>Dk _ _ _ (P.o h)⟩
 ·rw[Oz m]at d;rw[Y8,t _ O0,t _ O0];rcases Z7 i p with h|h
  ·rw[F.o _ O0,F.o _ O0,DR m h];exact U.o i O0
  obtain⟨e0,e1⟩:=Ce (fs.drop (p+1)) (i-p) (by rw[Oj];omega);have h0:=H.o ((i-p)*2) O0;have h1:=H.o ((i-p)*2+1) O0;rw[show p*2+(i-p)*2=i*2 by omega,e0]at h0;rw[show p*2+((i-p)*2+1)=i*2+1 by omega,e1]at h1;rw[JV m h];exact⟨h0,h1⟩
 exact yQ.1 (isSome_setCells g _ _ _ _ (q.o j O0))
theorem Ci(h:P6 w (some ⟨B,0,none⟩) fs)(hz:B<w.heap.size)(hf:∀j,w.frozen? ⟨B,j,none⟩=false):Rq w B fs.length:=by
 refine⟨hz,λj a=>?_,hf⟩;rcases h with h|⟨b,off,h1,h2,c⟩
 ·rw[h]at a;simp at a
 obtain⟨rfl,rfl⟩:B=b/\0=off:=by injection h1 with h1;injection h1 with e1 e2;exact⟨e1,e2⟩
 have:=c (j / 2) O0;simp only[Y8]at this;rcases tJ j with h|h
 ·rw[show j=j / 2*2 by omega];exact⟨_,this.1⟩
 rw[show j=j / 2*2+1 by omega];exact⟨_,this.2⟩
theorem ne_of_lt'{a b:BY}(h:lt a b=true):a≠b:=λe=>by rw[e,Xd]at h;cases h
theorem a1L{x y:BY}(h:x≠y):(x.toList==y.toList)=false:=by
 rw[S_];intro e;rw[ByteArray.toList_eq,ByteArray.toList_eq]at e;exact h (jg (Yl.1 e))
theorem getD_mem(h:x∈fs):∃i,i<fs.length/\fs.getD i o9=x:=by
 obtain⟨i,a,rfl⟩:=Qe h;exact⟨i,a,by simp[List.getD,V8 a]⟩
theorem filter_all(h:∀i,i<fs.length->(fs.getD i o9).nm≠nm):without fs nm=fs:=by
 unfold without;refine lK.2 λx hx=>?_;obtain⟨i,a,rfl⟩:=getD_mem hx;rw[a1L (h i a)];rfl
theorem iP(h:i<p):(fs.take p).getD i o9=fs.getD i o9:=by simp[List.getD,zC h]
theorem Hy(hm:Asc fs)(b:p<fs.length):without fs (fs.getD p o9).nm=del fs p:=by
 have e:fs=fs.take p++fs.getD p o9::fs.drop (p+1):=by
  conv=>lhs;rw[<- Zk (p+1) fs,xk b]
  simp
 have h1:without (fs.take p) (fs.getD p o9).nm=fs.take p:=filter_all λi a=>by
  rw[L_]at a;rw[iP O0];exact ne_of_lt' (hm i p O0 b)
 have h2:without (fs.drop (p+1)) (fs.getD p o9).nm=fs.drop (p+1):=filter_all λi a=>by
  rw[Oj]at a;rw[Zw];exact(ne_of_lt' (hm p (p+1+i) O0 O0)).symm
 have c:without (fs.take p++fs.getD p o9::fs.drop (p+1)) (fs.getD p o9).nm=without (fs.take p) (fs.getD p o9).nm++without (fs.drop (p+1)) (fs.getD p o9).nm:=by
  unfold without;rw[Kw,List.filter_cons_of_neg J4]
 rw[<- e,h1,h2]at c;exact c
def qj(fs:List F2)(nm:BY)(c:Int)(gs:List F2):Prop:=
 (¬G_ fs/\c=1/\gs=[])\/(G_ fs/\(∀i,i<fs.length->(fs.getD i o9).nm≠nm)/\c=4/\gs=[])\/(G_ fs/\(∃i,i<fs.length/\(fs.getD i o9).nm=nm)/\c=0/\gs=without fs nm)
theorem fD(h:qj fs nm c gs)(k:qj fs nm e d):e=c/\d=gs:=by
 rcases h with⟨h1,rfl,rfl⟩|⟨h1,h2,rfl,rfl⟩|⟨h1,⟨i,g,h2⟩,rfl,rfl⟩<;>rcases k with⟨a,rfl,rfl⟩|⟨a,b,rfl,rfl⟩|⟨a,⟨j,f,b⟩,rfl,rfl⟩
 ·exact⟨rfl,rfl⟩
 ·exact absurd a h1
 ·exact absurd a h1
 ·exact absurd h1 a
 ·exact⟨rfl,rfl⟩
 ·exact absurd b (h2 j f)
 ·exact absurd h1 a
 ·exact absurd h2 (b i g)
 exact⟨rfl,rfl⟩
theorem VN(h:qj fs nm c gs):gs.length<=40:=by
 rcases h with⟨h1,rfl,rfl⟩|⟨h1,h2,rfl,rfl⟩|⟨h1,h2,rfl,rfl⟩
 ·simp
 ·simp
 exact X7 (Jy _ _) h1.1
theorem Og{B':Nat}{e:TypeId}{size:Nat}{xs:List Value}(h:w.ownsRow B e size v n xs)(hB:B'<=B):w.ownsRow B' e size v n xs:=by
 refine⟨h.1,?_⟩;rcases h.2 with h2|⟨g,cap,cur,hv,a,r⟩
 ·exact .inl h2
 exact .inr ⟨g,cap,cur,hv,X7 hB a,r⟩
theorem vM(w:World)(B:Nat):Um w B (Sa none 0 0) []:=⟨rfl,.inl ⟨rfl,rfl⟩⟩
structure Zi(w u:World)(t r:Value):Prop where
 bel:Bw w u
 ht:u.heap[w.heap.size]?=some (Sg #[t] 40 (0,0))
 hr:u.heap[w.heap.size+1]?=some (Sg #[r] 40 (0,0))
theorem Zi.start(w:World)(t r:Value):Zi w ((w.alloc (Sg #[t] 40)).alloc (Sg #[r] 40)) t r:=
 ⟨U6.alloc J4 _,by rw[alloc_old J4];exact Jd rfl _,Jd J4 _⟩
theorem Zi.sz(h:Zi w u t r):w.heap.size+2<=u.heap.size:=xg h.hr
theorem Zi.later(h:Zi w u t r)(a:Bw u u'):Zi w u' t r:=by
 have:=h.sz;exact⟨h.bel.trans (a.mono O0),by rw[a.block _ O0];exact h.ht,by rw[a.block _ O0];exact h.hr⟩
theorem Zi.but(h:Zi w u t r)(a:But g u u')(hg:w.heap.size+2<=g):Zi w u' t r:=by
 have:=h.sz;exact⟨h.bel.trans (a.below O0 O0),by rw[a.block _ O0 O0];exact h.ht,by rw[a.block _ O0 O0];exact h.hr⟩
theorem Zi.cells(h:Zi w u t r):u.cell? ⟨w.heap.size,0,none⟩=some t/\u.cell? ⟨w.heap.size+1,0,none⟩=some r/\u.frozen? ⟨w.heap.size+1,0,none⟩=false:=
 ⟨by rw[Lib.cell_of_heap h.ht];rfl,by rw[Lib.cell_of_heap h.hr];rfl,Lib.frozen_of_heap h.hr 0⟩
theorem c154(a:OA)(cap:Nat)(fs:List F2)(nm:BY)(w:World)(hl:fs.length<=1048576)(hs:∀i,(fs.getD i o9).le 1048576)(p:P6 w a fs):
 Calls prog 154 #[.agg #[Sa a fs.length cap],Sb nm] w λe w'=>(∃v c gs,e=Sf (.tuple #[.agg #[v],Sc Se c])/\Um w' w.heap.size v gs/\qj fs nm c gs)/\Bw w w':=by
 have l:=U0 p;have J:=U0 hs;have m:Hid (Zi w ((w.alloc (Sg #[vL a fs.length cap] 40)).alloc (Sg #[vN] 40)) (vL a fs.length cap) vN):=Zi.start _ _ _;clear p hs
 go_in
 go_wp2_with fail
 refine(a0y a cap fs _ hl J.o (J5 l.o m.o.bel)).mono ?_;rintro e w1⟨⟨v,rfl,hv⟩,o⟩;have j:=U0 hv;have g:=U0 (m.o.later o);obtain⟨t1,z,f1⟩:=g.o.cells;clear hv o m;cases v
 ·have d:Hid (qj fs nm 1 []):=.inl ⟨λh=>(by have:=j.o.2 h;cases this),rfl,rfl⟩;clear j;go_wp2;refine P7 (v:=.tuple #[.agg #[vN],vI 1]) (by simp[results,results154,go_sem,z]) rfl ⟨⟨_,_,_,rfl,vM _ _,d.o⟩,g.o.bel.setCell J4 _⟩
 have n:=j.o.1 rfl;have D:=n.1;have s:=U0 n
 go_wp2_with fail
 refine(a1H a cap fs nm w1 O0 (J5 l g.o.bel)).mono ?_;rintro e u⟨⟨r,rfl,hr⟩,F⟩;have q:Hid ((r<0/\∀i,i<fs.length->(fs.getD i o9).nm≠nm)\/(0<=r/\∃i,i<fs.length/\(fs.getD i o9).nm=nm)):=by
  rcases hr with⟨rfl,h⟩|⟨i,rfl,h⟩
  ·exact .inl ⟨U5,h⟩
  exact .inr ⟨O0,i,h⟩
 have f:=U0 (g.o.later F);obtain⟨t2,y,f2⟩:=f.o.cells;by_cases C:r<0
 ·have d:Hid (qj fs nm 4 []):=.inr (.inl ⟨s,by rcases q.o with h|h;exact h.2;omega,rfl,rfl⟩);go_wp2;refine P7 (v:=.tuple #[.agg #[vN],vI 4]) (by simp[results,results154,go_sem,y]) rfl ⟨⟨_,_,_,rfl,vM _ _,d⟩,f.o.bel.setCell J4 _⟩
 have d:Hid (qj fs nm 0 (without fs nm)):=.inr (.inr ⟨s,by rcases q.o with h|h;omega;exact h.2,rfl,rfl⟩);have hneg':=j_ C
 go_wp2_with fail
 refine(c206 a cap fs nm u D (J5 l f.o.bel)).mono ?_;rintro e w3⟨⟨v,rfl,B⟩,E⟩;have k:=U0 B;have t:=U0 (f.o.later E);have hz2:=f.o.sz;obtain⟨t3,x,f3⟩:=t.o.cells;obtain⟨I,H,A,_⟩:=k.o.form;subst A;go_wp2;refine P7 (v:=.tuple #[.agg #[vL I (without fs nm).length H],vO]) (by simp[results,results154,go_sem,x]) rfl ⟨⟨_,_,_,rfl,?_,d⟩,t.o.bel.setCell J4 _⟩;exact VA (b:=w.heap.size+1) (Og k O0) ((But.refl _ _).setCell _ _) (λe=>by have:=(k.o.lt _ e).1;omega)
theorem Ey(h:Um w B v fs){p:Nat}(hp:p<fs.length):∃g cap,v=Sa (some ⟨g,0,none⟩) fs.length cap/\B<=g/\fs.length<=cap/\(∀i,i<fs.length->w.cell? ⟨g,i*2,none⟩=some (Sb (fs.getD i o9).nm)/\w.cell? ⟨g,i*2+1,none⟩=some (Sb (fs.getD i o9).tx))/\(∀j,w.frozen? ⟨g,j,none⟩=false)/\g<w.heap.size:=by
 have b:=h;rcases h.2 with⟨hv,h0⟩|⟨g,cap,cur,hv,e,a,c,_⟩
 ·omega
 subst hv;refine⟨g,cap,rfl,e,c,λi d=>?_,λj=>Lib.frozen_of_heap a j,xg a⟩;obtain⟨e0,e1⟩:=Ce fs i d;rw[b.cellAt _ O0,b.cellAt _ O0];exact⟨e0,e1⟩
theorem KH(h:Rq w b n)(a:g≠b):Rq (w.setCell ⟨g,j,none⟩ v) b n:=by
 refine⟨by simpa using h.1,λi c=>?_,λi=>by have:=h.2.2 i;simpa using this⟩;rw[Nb _ _ _ _ (by intro e;injection e with e1 _;exact a e1)];exact h.2.1 i c
def Wn(B:Nat)(w:World)(a:OA)(gs:List F2):Prop:=P6 w a gs/\(gs=[]\/∃g,a=some ⟨g,0,none⟩/\B<=g/\Rq w g gs.length/\bQ w g)
theorem a6b(a:OA)(cap:Nat)(fs:List F2)(nm:BY)(w:World)(hl:fs.length<=1048576)(hs:∀i,(fs.getD i o9).le 1048576)(C:P6 w a fs):
 Calls prog 220 #[.agg #[Sa a fs.length cap],Sb nm] w λe w'=>(∃D cap' c gs,e=Sf (.tuple #[.agg #[Sa D gs.length cap'],Sc Se c])/\Wn w.heap.size w' D gs/\qj fs nm c gs)/\Bw w w':=by
 have r:=U0 C;have HS:=U0 hs;have s:Hid (Zi w ((w.alloc (Sg #[vL a fs.length cap] 40)).alloc (Sg #[vN] 40)) (vL a fs.length cap) vN):=Zi.start _ _ _;clear C hs
 go_in
 go_wp2_with fail
 refine(c173 a cap fs _ hl HS.o (J5 r.o s.o.bel)).mono ?_;rintro e w1⟨⟨v,rfl,hv⟩,B⟩;have q:=U0 hv;have n:=U0 (s.o.later B);obtain⟨t1,L,f1⟩:=n.o.cells;clear hv B s;cases v
 ·have k:Hid (qj fs nm 1 []):=.inl ⟨λh=>(by have:=q.o.2 h;cases this),rfl,rfl⟩;clear q;go_wp2;refine P7 (v:=.tuple #[.agg #[vN],vI 1]) (by simp[results,results220,go_sem,L]) rfl ⟨⟨none,0,_,[],rfl,⟨.inl rfl,.inl rfl⟩,k.o⟩,n.o.bel.setCell J4 _⟩
 have y:=q.o.1 rfl;have z:=y.1;have l:=U0 y
 go_wp2_with fail
 refine(UX a cap fs nm w1 z (J5 r n.o.bel) (Yh l)).mono ?_;rintro e I⟨⟨p,f,rfl,j⟩,Y⟩;have E:=U0 j;have m:=U0 (n.o.later Y);obtain⟨t2,K,f2⟩:=m.o.cells;cases f
 ·have k:Hid (qj fs nm 4 []):=by
   refine .inr (.inl ⟨l,λi A e=>?_,rfl,rfl⟩);have j:=E.o;rcases Z7 i p with h|h
   ·have:=j.less i h;rw[e,Xd]at this;cases this
   rcases Z7 p i with h1|h1
   ·have h2:=Yh l p i h1 A;rw[e,j.more p A8 O0]at h2;cases h2
   obtain rfl:i=p:=O0;have:=j.here.2 ⟨A,e⟩;cases this
  go_wp2;refine P7 (v:=.tuple #[.agg #[vN],vI 4]) (by simp[results,results220,go_sem,K]) rfl ⟨⟨none,0,_,[],rfl,⟨.inl rfl,.inl rfl⟩,k⟩,m.o.bel.setCell J4 _⟩
 obtain⟨d,u⟩:=E.o.here.1 rfl;have k:Hid (qj fs nm 0 (del fs p)):=by
  refine .inr (.inr ⟨l,⟨p,d,u⟩,rfl,?_⟩);rw[<- u,Hy (Yh l.o) d]
 obtain⟨b,off,hc⟩:=r_ (J5 r.o m.o.bel);obtain⟨ha,V,S⟩:=Ud hc d;subst ha;have HCE:=U0 S;have hz2:=m.o.sz
 go_wp2_with fail
 refine(a2O (some (aA b off)) cap fs I O0 (.inr ⟨b,off,rfl,V,HCE⟩)).mono ?_;rintro e H⟨v,rfl,x,X⟩;obtain⟨g,o,t,hg,O,U,Q,P⟩:=Ey x d;have H40:=U0 (uG x t);subst t;have H3:=U0 (m.o.later X);have HC3:=U0 U;have HF3:=U0 Q
 go_wp2_with fail
 refine(a6C g o fs p H z d O P HC3 HF3).mono ?_;rintro e w4⟨rfl,R,N,W,Z⟩;have HO4:=U0 (Z H40);have F:=U0 (H3.o.but W O0);have HFA:=U0 R;have HOP:=U0 N;obtain⟨t4,J,f4⟩:=F.o.cells;go_wp2;refine P7 (v:=.tuple #[.agg #[vL (some (aA g 0)) (fs.length-1) o],vO]) (by simp[results,results220,go_sem,J]) rfl ⟨⟨some (aA g 0),o,0,del fs p,by rw[Oz d],⟨Et HFA.o L8,.inr ⟨g,rfl,O0,?_⟩⟩,k.o⟩,F.o.bel.setCell J4 _⟩;rw[Oz d];exact⟨KH HOP O0,Xv HO4⟩
structure KAt(old:List F2)(nm:BY)(k:Nat):Prop where
 le:k<=old.length
 less:∀j,j<k->lt (old.getD j o9).nm nm=true
 stop:k=old.length\/lt (old.getD k o9).nm nm=false
theorem ZW{old:List F2}{k k':Nat}(h:KAt old nm k)(a:KAt old nm k'):k=k':=by
 rcases Jt k k' with h1|h1|h1
 ·rcases h.stop with h2|h2
  ·have:=a.le;omega
  rw[a.less k h1]at h2;cases h2
 ·exact h1
 rcases a.stop with h2|h2
 ·have:=h.le;omega
 rw[h.less k' h1]at h2;cases h2
def ins(old:List F2)(k:Nat)(x:F2):List F2:=old.take k++x::old.drop k
theorem aG(old:List F2)(k:Nat)(x:F2)(h:k<=old.length):(ins old k x).length=old.length+1:=by
 unfold ins;rw[List.length_append,List.length_cons,List.length_take,List.length_drop];omega
def Wq(fs:List F2)(x:F2)(c:Int)(gs:List F2):Prop:=
 (¬G_ fs/\c=1/\gs=[])\/(G_ fs/\Qa x=false/\c=2/\gs=[])\/(G_ fs/\Qa x=true/\40<=(without fs x.nm).length/\c=3/\gs=[])\/(G_ fs/\Qa x=true/\(without fs x.nm).length<40/\c=0/\∃k,KAt (without fs x.nm) x.nm k/\gs=ins (without fs x.nm) k x)
theorem zI(h:Wq fs x c gs)(k:Wq fs x e d):e=c/\d=gs:=by
 rcases h with⟨h1,rfl,rfl⟩|⟨h1,h2,rfl,rfl⟩|⟨h1,h2,m,rfl,rfl⟩|⟨h1,h2,m,rfl,i,l,rfl⟩<;>rcases k with⟨a,rfl,rfl⟩|⟨a,b,rfl,rfl⟩|⟨a,b,f,rfl,rfl⟩|⟨a,b,f,rfl,j,g,rfl⟩
 all_goals first
  | exact⟨rfl,rfl⟩
  | exact absurd a h1
  | exact absurd h1 a
  | (exact absurd (h2.symm.trans b) U5)
  | (exfalso;omega)
  | (rw[ZW l g];exact⟨rfl,rfl⟩)
theorem OT(h:Wq fs x c gs):gs.length<=40:=by
 rcases h with⟨h1,rfl,rfl⟩|⟨h1,h2,rfl,rfl⟩|⟨h1,h2,b,rfl,rfl⟩|⟨h1,h2,b,rfl,i,a,rfl⟩
 ·simp
 ·simp
 ·simp
 rw[aG _ _ _ a.le];omega
structure Ze(w u:World)(t:Value)(x:F2)(r:Value):Prop where
 bel:Bw w u
 ht:u.heap[w.heap.size]?=some (Sg #[t] 40 (0,0))
 hf:u.heap[w.heap.size+1]?=some (Sg #[Sb x.nm,Sb x.tx] 169 (0,0))
 hr:u.heap[w.heap.size+1+1]?=some (Sg #[r] 40 (0,0))
theorem Ze.start(w:World)(t:Value)(x:F2)(r:Value):Ze w (((w.alloc (Sg #[t] 40)).alloc (Sg #[Sb x.nm,Sb x.tx] 169)).alloc (Sg #[r] 40)) t x r:=by
 refine⟨(U6.alloc J4 _).alloc L8 _,?_,?_,?_⟩
 ·rw[alloc_old L8,alloc_old J4];exact Jd rfl _
 ·rw[alloc_old J4];exact Jd J4 _
 exact Jd J4 _
theorem Ze.sz(h:Ze w u t x r):w.heap.size+3<=u.heap.size:=xg h.hr
theorem Ze.later(h:Ze w u t x r)(a:Bw u u'):Ze w u' t x r:=by
 have:=h.sz;exact⟨h.bel.trans (a.mono O0),by rw[a.block _ O0];exact h.ht,by rw[a.block _ O0];exact h.hf,by rw[a.block _ O0];exact h.hr⟩
theorem Ze.but(h:Ze w u t x r)(a:But g u u')(hg:w.heap.size+3<=g):Ze w u' t x r:=by
 have:=h.sz;exact⟨h.bel.trans (a.below O0 O0),by rw[a.block _ O0 O0];exact h.ht,by rw[a.block _ O0 O0];exact h.hf,by rw[a.block _ O0 O0];exact h.hr⟩
theorem Ze.cells(h:Ze w u t x r):u.cell? ⟨w.heap.size,0,none⟩=some t/\u.cell? ⟨w.heap.size+1,0,none⟩=some (Sb x.nm)/\u.cell? ⟨w.heap.size+1,1,none⟩=some (Sb x.tx)/\u.cell? ⟨w.heap.size+1+1,0,none⟩=some r/\u.frozen? ⟨w.heap.size+1+1,0,none⟩=false:=
 ⟨by rw[Lib.cell_of_heap h.ht];rfl,by rw[Lib.cell_of_heap h.hf];rfl,by rw[Lib.cell_of_heap h.hf];rfl,by rw[Lib.cell_of_heap h.hr];rfl,Lib.frozen_of_heap h.hr 0⟩
theorem own_below(h:Um w B v fs){n:Nat}(d:Below n w w')(a:∀k,v.ownBlock=some k->k<n):Um w' B v fs:=by
 obtain⟨h1,h2⟩:=h;refine⟨h1,?_⟩;rcases h2 with h|⟨g,cap,cur,hv,c,b,hr⟩
 ·exact .inl h
 exact .inr ⟨g,cap,cur,hv,c,by rw[d.block g (a g (by rw[hv];rfl))];exact b,hr⟩
theorem LM{a:OA}{c:Nat}(h:Um w B (Sa a n c) fs):fs.length<=c:=by
 rcases h.2 with⟨hv,h0⟩|⟨g,cap,cur,hv,hg,hh,hnc,_⟩
 ·omega
 injection hv with _ _ e;omega
theorem rO(b off i:Nat):(⟨b,off,none⟩:Addr).add i=⟨b,off+i,none⟩:=by unfold Addr.add;split<;>simp_all
end Go.Proofs.YtdgneicbmalnpaaGreatDoor.T
namespace Go.Proofs.YtdgneicbmalnpaaGreatDoor
open Proofs.Tryz Go.RowKit
def gZ:List Value->Nat->List Value->List Value
 | xs,_,[]=>xs
 | xs,j,v::vs=>gZ (xs.set j v) (j+1) vs
theorem Cl.NZ{B:Nat}{t:TypeId}:∀(vs:List Value){w:World}{xs:List Value}{j:Nat},Cl w B t xs->Cl (fill w B j vs) B t (gZ xs j vs)
 | [],_,_,_,h=>h
 | v::vs,_,_,j,h=>Cl.NZ vs (h.set j v)
section
variable{P:Program}{ops:Array Oper}{Q:Exit->Act->World->Prop}{rest:List Oper}{o:Oper}{a:Act}{w V:World}{ta tr:TypeId}{ar zs xs:List Value}{R:World->Prop}
theorem Ye(H:TB w ta tr ar zs xs R V)(f:o.guard=none)(ty:TypeId)(x y:Operand)(ho:o.op=.store ty x y){j:Nat}{xs':List Value}(v:Value)(hx:a.eval x=Sd (some ⟨w.heap.size+1+1,j,none⟩))(c:a.eval y=v)(hv:v.oneCell'=true)(d:j<xs.length)(e:(P.info? ty).map (·.size)=some 1)
 (g:∀b,Hid (TB w ta tr ar zs xs' R b)->wpList P ops Q rest (a.put o.dst undef) b) (hs:xs.set j v=xs':=by simp only[List.set_cons_zero,List.set_cons_succ]<;>rfl):wpList P ops Q (o::rest) a V:=by
 subst c hs;exact BF f (Ql ty x y ho hx hv ⟨xs[j],by rw[H.co.cell,V8 d]⟩ (H.co.opn j) e) (g _ (H.put j _))
theorem XG(H:TB w ta tr ar zs xs R V)(e:o.guard=none)(ty:TypeId)(x y:Operand)(ho:o.op=.store ty x y){j:Nat}{xs':List Value}(vs:List Value)(hx:a.eval x=Sd (some ⟨w.heap.size+1+1,j,none⟩))(c:a.eval y=.agg vs.toArray)(hl:j+vs.length<=xs.length)(hv:vs.all Value.oneCell'=true)(d:(P.info? ty).map (·.size)=some vs.length)
 (f:∀b,Hid (TB w ta tr ar zs xs' R b)->wpList P ops Q rest (a.put o.dst undef) b) (hs:gZ xs j vs=xs':=by simp only[gZ,List.set_cons_zero,List.set_cons_succ]<;>rfl):wpList P ops Q (o::rest) a V:=by
 subst hs;exact BF e (vK ty x y ho hx c H.co hl (X5 hv) d) (f _ (H.on (SE _ _ _ _) (Cl.NZ vs H.co)))
theorem wC(H:TB w ta tr ar zs xs R V)(f:o.guard=none)(ty:TypeId)(x:Operand)(ho:o.op=.load ty x)(cs:List Value){d:TypeDesc}(hx:a.eval x=Sd (some ⟨w.heap.size+1+1,0,none⟩))(hc:xs=cs)(b:P.underlying ty=some d)(hd:(match d with | .struct _ | .array _ _=>true|_=>false)=true)(c:(P.info? ty).map (·.size)=some cs.length)(g:wpList P ops Q rest (a.put o.dst (.agg cs.toArray)) V):wpList P ops Q (o::rest) a V:=by
 subst hc;exact Oa f (N9 ty x ho hx (λq v e=>by rw[Y8];exact(H.co.cell q).trans e) b hd c) g
theorem IC(H:TB w ta tr ar zs xs R V)(g:o.guard=none)(ty:TypeId)(x y:Operand)(ho:o.op=.store ty x y)(vs:List Value)(hx:a.eval x=Sd (some ⟨w.heap.size+1,0,none⟩))(d:a.eval y=.agg vs.toArray)(hl:vs.length=zs.length)(hv:vs.all Value.oneCell'=true)(f:(P.info? ty).map (·.size)=some vs.length)
 (h:∀z,J6 z (w.heap.size+1) vs->Kp w.heap.size z R->Bw w z->wpList P ops Q rest (a.put o.dst undef) z):wpList P ops Q (o::rest) a V:=
 N7 g ty x y ho hx d H.cr O0 (X5 hv) f (λz c b=>h z (by
  have e:Dp zs 0 vs=vs:=by unfold Dp;rw[Nat.zero_add,hl];simp
  rw[e]at c;exact c.blk) (H.end_ b).1 (H.end_ b).2)
end
theorem c74(x:Jb)(w:World):
 Calls prog 74 #[.agg #[Sb x.nm,Sc Se x.wk,Sc Se x.un]] w λe w'=>e=Sf (.agg #[Sb x.nm,Sc Se x.wk,Sc Se x.un])/\Bw w w':=by
 go_in
 go_wp2;refine P7 (v:=.agg #[Sb x.nm,Sc Se x.wk,Sc Se x.un]) (by simp[results,results74,go_sem]) rfl ⟨rfl,?_⟩;exact((U6.alloc J4 _).alloc L8 _)
theorem c30(a:OA)(cap:Nat)(is:List Jb)(w:World)(hl:is.length<=1048576)(q:Qj w a is):
 Calls prog 30 #[Sa a is.length cap] w λe w'=>(∃v,e=Sf v/\au w.heap.size w' Qj 124 3 is v)/\Bw w w':=by
 obtain⟨b,off,hc⟩:=Z_ q;have y:=U0 hc;clear hc q;have hmk:=Ny (z:=[Sb ⟨#[]⟩,Sc Se 0,Sc Se 0]) underlying45 (show(prog.info? 124).map (λi=>(i.zero,i.size,i.bytes))=some (some (.agg #[Sb ⟨#[]⟩,Sc Se 0,Sc Se 0]),3,32) from Y0) rfl rfl U5 hl
 go_in
 go_wp2;go_loopw[4] (λi wr=>∃(k:Nat),k<=is.length/\i=Sc Se k/\Below w.heap.size w wr/\Hid (Cl wr w.heap.size 124 (qw is Kq [Sb ⟨#[]⟩,Sc Se 0,Sc Se 0] k))) (λi _=>is.length-(RowKit.intOf i).toNat);exact⟨0,Y4 _,rfl,U6,I4 _ _ _⟩;obtain⟨k,hk,rfl,g,hc⟩:=hrel;by_cases c:k<is.length;rotate_left
 ·obtain rfl:k=is.length:=O0;have hd:Hid (au w.heap.size wr Qj 124 3 is _):=Jm (d:=Ea) (λ_=>rfl) (λ_ _ _ h=>h) hc.o;go_wp2;go_ret;exact⟨⟨_,rfl,hd.o⟩,g⟩
 obtain⟨ha,s,o⟩:=Ud y.o c;subst ha;have A:=U0 ((o k c).below s g);have r:=U0 (Vm (d:=Ea) (z:=[Sb ⟨#[]⟩,Sc Se 0,Sc Se 0]) (f:=Kq) (m:=3) (λ_=>rfl) rfl c);generalize is.getD k Ea=x at*;clear o
 go_wp2_with(refine Oa rfl (N9 107 _ rfl (B:=b) (j:=off+k*3) (cs:=Kq x) rfl A.o underlying107 rfl Y0) ?_)
 refine(c74 x wr).mono ?_;rintro e w1⟨rfl,p⟩;have t:=E5 g p;have u:=U0 (hc.o.below p hc.o.lt)
 go_wp2_with(refine N7 rfl 124 _ _ rfl (B:=w.heap.size) (j:=k*3) rfl (vs:=Kq x) rfl u.o r.o.1 (X5 rfl) Y0 ?_;intro z l n;rw[r.o.2]at l;have C:=U0 l;have bz:=t.trans (n.below A8);clear l n)
 go_roundw;exact⟨k+1,O0,by go_num,bz,C⟩;exact V9
theorem c116(x:T.F2)(w:World):
 Calls prog 116 #[.agg #[Sb x.nm,Sb x.tx]] w λe w'=>e=Sf (.agg #[Sb x.nm,Sb x.tx])/\Bw w w':=by
 go_in
 go_wp2;refine P7 (v:=.agg #[Sb x.nm,Sb x.tx]) (by simp[results,results116,go_sem]) rfl ⟨rfl,?_⟩;exact((U6.alloc J4 _).alloc L8 _)
theorem c71(a:OA)(cap:Nat)(is:List T.F2)(w:World)(hl:is.length<=1048576)(q:nP w a is):
 Calls prog 71 #[Sa a is.length cap] w λe w'=>(∃v,e=Sf v/\au w.heap.size w' nP 169 2 is v)/\Bw w w':=by
 obtain⟨b,off,hc⟩:=Z_ q;have y:=U0 hc;clear hc q;have hmk:=Ny (z:=[Sb ⟨#[]⟩,Sb ⟨#[]⟩]) underlying38 (show(prog.info? 169).map (λi=>(i.zero,i.size,i.bytes))=some (some (.agg #[Sb ⟨#[]⟩,Sb ⟨#[]⟩]),2,32) from Y0) rfl rfl U5 hl
 go_in
 go_wp2;go_loopw[4] (λi wr=>∃(k:Nat),k<=is.length/\i=Sc Se k/\Below w.heap.size w wr/\Hid (Cl wr w.heap.size 169 (qw is fiE [Sb ⟨#[]⟩,Sb ⟨#[]⟩] k))) (λi _=>is.length-(RowKit.intOf i).toNat);exact⟨0,Y4 _,rfl,U6,I4 _ _ _⟩;obtain⟨k,hk,rfl,g,hc⟩:=hrel;by_cases c:k<is.length;rotate_left
 ·obtain rfl:k=is.length:=O0;have hd:Hid (au w.heap.size wr nP 169 2 is _):=Jm (d:=T.o9) (λ_=>rfl) (λ_ _ _ h=>h) hc.o;go_wp2;go_ret;exact⟨⟨_,rfl,hd.o⟩,g⟩
 obtain⟨ha,s,o⟩:=Ud y.o c;subst ha;have A:=U0 ((o k c).below s g);have r:=U0 (Vm (d:=T.o9) (z:=[Sb ⟨#[]⟩,Sb ⟨#[]⟩]) (f:=fiE) (m:=2) (λ_=>rfl) rfl c);generalize is.getD k T.o9=x at*;clear o
 go_wp2_with(refine Oa rfl (N9 162 _ rfl (B:=b) (j:=off+k*2) (cs:=fiE x) rfl A.o underlying162 rfl Y0) ?_)
 refine(c116 x wr).mono ?_;rintro e w1⟨rfl,p⟩;have t:=E5 g p;have u:=U0 (hc.o.below p hc.o.lt)
 go_wp2_with(refine N7 rfl 169 _ _ rfl (B:=w.heap.size) (j:=k*2) rfl (vs:=fiE x) rfl u.o r.o.1 (X5 rfl) Y0 ?_;intro z l n;rw[r.o.2]at l;have C:=U0 l;have bz:=t.trans (n.below A8);clear l n)
 go_roundw;exact⟨k+1,O0,by go_num,bz,C⟩;exact V9
def VU(w:World)(a:OA)(is:List G3):Prop:=iy w a is Jh 3 λw b o x=>Bc w b o (jQ x)
theorem YV{w:World}{a:OA}{is:List G3}(h:R_ w a is):VU w a is:=by
 rcases h with h|⟨b,off,h1,h2,d⟩
 ·exact .inl h
 refine .inr ⟨b,off,h1,h2,λi c q v e=>?_⟩
 match q,e with
 | 0,e=>cases e;exact(d i c).1
 | 1,e=>cases e;exact(d i c).2.1
 | 2,e=>cases e;exact(d i c).2.2
theorem xZ{w:World}{a:OA}{is:List G3}(h:VU w a is):R_ w a is:=by
 rcases h with h|⟨b,off,h1,h2,d⟩
 ·exact .inl h
 exact .inr ⟨b,off,h1,h2,λi c=>⟨d i c 0 _ rfl,d i c 1 _ rfl,d i c 2 _ rfl⟩⟩
theorem c213(x:G3)(w:World):
 Calls prog 213 #[.agg #[.bool x.nm,Sb x.tl,Sb x.ar]] w λe w'=>e=Sf (.agg #[.bool x.nm,Sb x.tl,Sb x.ar])/\Bw w w':=by
 go_in
 go_wp2;refine P7 (v:=.agg #[.bool x.nm,Sb x.tl,Sb x.ar]) (by simp[results,results213,go_sem]) rfl ⟨rfl,?_⟩;exact((U6.alloc J4 _).alloc L8 _)
theorem a5T(a:OA)(cap:Nat)(is:List G3)(w:World)(hl:is.length<=1048576)(q:VU w a is):
 Calls prog 158 #[Sa a is.length cap] w λe w'=>(∃v,e=Sf v/\au w.heap.size w' VU 235 3 is v)/\Bw w w':=by
 obtain⟨b,off,hc⟩:=Z_ q;have y:=U0 hc;clear hc q;have hmk:=Ny (z:=[.bool false,Sb ⟨#[]⟩,Sb ⟨#[]⟩]) underlying177 (show(prog.info? 235).map (λi=>(i.zero,i.size,i.bytes))=some (some (.agg #[.bool false,Sb ⟨#[]⟩,Sb ⟨#[]⟩]),3,40) from Y0) rfl rfl U5 hl
 go_in
 go_wp2;go_loopw[4] (λi wr=>∃(k:Nat),k<=is.length/\i=Sc Se k/\Below w.heap.size w wr/\Hid (Cl wr w.heap.size 235 (qw is jQ [.bool false,Sb ⟨#[]⟩,Sb ⟨#[]⟩] k))) (λi _=>is.length-(RowKit.intOf i).toNat);exact⟨0,Y4 _,rfl,U6,I4 _ _ _⟩;obtain⟨k,hk,rfl,g,hc⟩:=hrel;by_cases c:k<is.length;rotate_left
 ·obtain rfl:k=is.length:=O0;have hd:Hid (au w.heap.size wr VU 235 3 is _):=Jm (d:=Jh) (λ_=>rfl) (λ_ _ _ h=>h) hc.o;go_wp2;go_ret;exact⟨⟨_,rfl,hd.o⟩,g⟩
 obtain⟨ha,s,o⟩:=Ud y.o c;subst ha;have A:=U0 ((o k c).below s g);have r:=U0 (Vm (d:=Jh) (z:=[.bool false,Sb ⟨#[]⟩,Sb ⟨#[]⟩]) (f:=jQ) (m:=3) (λ_=>rfl) rfl c);generalize is.getD k Jh=x at*;clear o
 go_wp2_with(refine Oa rfl (N9 274 _ rfl (B:=b) (j:=off+k*3) (cs:=jQ x) rfl A.o underlying274 rfl Y0) ?_)
 refine(c213 x wr).mono ?_;rintro e w1⟨rfl,p⟩;have t:=E5 g p;have u:=U0 (hc.o.below p hc.o.lt)
 go_wp2_with(refine N7 rfl 235 _ _ rfl (B:=w.heap.size) (j:=k*3) rfl (vs:=jQ x) rfl u.o r.o.1 (X5 rfl) Y0 ?_;intro z l n;rw[r.o.2]at l;have C:=U0 l;have bz:=t.trans (n.below A8);clear l n)
 go_roundw;exact⟨k+1,O0,by go_num,bz,C⟩;exact V9
def FT(w:World)(a:OA)(is:List L4):Prop:=iy w a is K_ 4 λw b o x=>Bc w b o (xw x)
theorem mX{w:World}{a:OA}{is:List L4}(h:O9 w a is):FT w a is:=by
 rcases h with h|⟨b,off,h1,h2,d⟩
 ·exact .inl h
 refine .inr ⟨b,off,h1,h2,λi c q v e=>?_⟩
 match q,e with
 | 0,e=>cases e;exact(d i c).1
 | 1,e=>cases e;exact(d i c).2.1
 | 2,e=>cases e;exact(d i c).2.2.1
 | 3,e=>cases e;exact(d i c).2.2.2
theorem jW{w:World}{a:OA}{is:List L4}(h:FT w a is):O9 w a is:=by
 rcases h with h|⟨b,off,h1,h2,d⟩
 ·exact .inl h
 exact .inr ⟨b,off,h1,h2,λi c=>⟨d i c 0 _ rfl,d i c 1 _ rfl,d i c 2 _ rfl,d i c 3 _ rfl⟩⟩
theorem c119(cd:Int)(tx:BY)(w:World):
 Calls prog 119 #[.agg #[Sc Se cd,Sb tx]] w λe w'=>e=Sf (.agg #[Sc Se cd,Sb tx])/\Bw w w':=by
 go_in
 go_wp2;refine P7 (v:=.agg #[Sc Se cd,Sb tx]) (by simp[results,results119,go_sem]) rfl ⟨rfl,?_⟩;exact((U6.alloc J4 _).alloc L8 _)
theorem c159(x:L4)(w:World):
 Calls prog 159 #[.agg #[.bool x.has,Sb x.nm,Sc Se x.cd,Sb x.tx]] w λe w'=>e=Sf (.agg #[.bool x.has,Sb x.nm,Sc Se x.cd,Sb x.tx])/\Bw w w':=by
 go_in
 go_upto_region 2 with fail
 have H:=U0 (Uj (w:=w) (ta:=219) (tr:=213) (ar:=[.bool x.has,Sb x.nm,Sc Se x.cd,Sb x.tx]) (zs:=[.bool false,Sb ⟨#[]⟩,Sc Se 0,Sb ⟨#[]⟩]));generalize ((w.alloc (Sg #[.bool x.has,Sb x.nm,Sc Se x.cd,Sb x.tx] 219)).alloc (Sg #[.bool false,Sb ⟨#[]⟩,Sc Se 0,Sb ⟨#[]⟩] 213)).alloc (Sg #[.bool false,Sb ⟨#[]⟩,Sc Se 0,Sb ⟨#[]⟩] 213)=V at*
 go_wp2_with(first|(refine D9 H.o.ca rfl 102 _ rfl (j:=2) [Sc Se x.cd,Sb x.tx] rfl rfl underlying102 rfl Y0 ?_)|(refine J7 H.o.ca rfl _ _ rfl rfl rfl Y0 ?_)|(refine Ye H.o rfl 4 _ _ rfl (j:=0) (.bool x.has) rfl rfl rfl (Xa rfl) Y0 ?_;clear H;intro V H)|(refine Ye H.o rfl 9 _ _ rfl (j:=1) (Sb x.nm) rfl rfl rfl (Xa rfl) Y0 ?_;clear H;intro V H))
 refine(c119 x.cd x.tx V).mono ?_;rintro e V1⟨rfl,a⟩
 replace H:=U0 (H.o.call a (Q:=λ_=>True) (λ_ _ _=>trivial))
 go_wp2_with(first|(refine J7 H.o.ca rfl _ _ rfl rfl rfl Y0 ?_)|(refine XG H.o rfl 117 _ _ rfl (j:=2) [Sc Se x.cd,Sb x.tx] rfl rfl (Xa rfl) rfl Y0 ?_;clear H;intro V H)|(refine wC H.o rfl 213 _ rfl [.bool x.has,Sb x.nm,Sc Se x.cd,Sb x.tx] rfl rfl underlying213 rfl Y0 ?_)|(refine IC H.o rfl 213 _ _ rfl [.bool x.has,Sb x.nm,Sc Se x.cd,Sb x.tx] rfl rfl rfl rfl Y0 ?_;clear H;intro z b hk a))
 exact P7 (l7 (P:=prog) (ty:=213) rfl _ z (w.heap.size+1) [.bool x.has,Sb x.nm,Sc Se x.cd,Sb x.tx] _ rfl b underlying213 rfl Y0) rfl ⟨rfl,a⟩
theorem a6c(a:OA)(cap:Nat)(is:List L4)(w:World)(hl:is.length<=1048576)(q:FT w a is):
 Calls prog 118 #[Sa a is.length cap] w λe w'=>(∃v,e=Sf v/\au w.heap.size w' FT 213 4 is v)/\Bw w w':=by
 obtain⟨b,off,hc⟩:=Z_ q;have y:=U0 hc;clear hc q;have hmk:=Ny (z:=[.bool false,Sb ⟨#[]⟩,Sc Se 0,Sb ⟨#[]⟩]) underlying116 (show(prog.info? 213).map (λi=>(i.zero,i.size,i.bytes))=some (some (.agg #[.bool false,Sb ⟨#[]⟩,Sc Se 0,Sb ⟨#[]⟩]),4,48) from Y0) rfl rfl U5 hl
 go_in
 go_wp2;go_loopw[4] (λi wr=>∃(k:Nat),k<=is.length/\i=Sc Se k/\Below w.heap.size w wr/\Hid (Cl wr w.heap.size 213 (qw is xw [.bool false,Sb ⟨#[]⟩,Sc Se 0,Sb ⟨#[]⟩] k))) (λi _=>is.length-(RowKit.intOf i).toNat);exact⟨0,Y4 _,rfl,U6,I4 _ _ _⟩;obtain⟨k,hk,rfl,g,hc⟩:=hrel;by_cases c:k<is.length;rotate_left
 ·obtain rfl:k=is.length:=O0;have hd:Hid (au w.heap.size wr FT 213 4 is _):=Jm (d:=K_) (λ_=>rfl) (λ_ _ _ h=>h) hc.o;go_wp2;go_ret;exact⟨⟨_,rfl,hd.o⟩,g⟩
 obtain⟨ha,s,o⟩:=Ud y.o c;subst ha;have A:=U0 ((o k c).below s g);have r:=U0 (Vm (d:=K_) (z:=[.bool false,Sb ⟨#[]⟩,Sc Se 0,Sb ⟨#[]⟩]) (f:=xw) (m:=4) (λ_=>rfl) rfl c);generalize is.getD k K_=x at*;clear o
 go_wp2_with(refine Oa rfl (N9 219 _ rfl (B:=b) (j:=off+k*4) (cs:=xw x) rfl A.o underlying219 rfl Y0) ?_)
 refine(c159 x wr).mono ?_;rintro e w1⟨rfl,p⟩;have t:=E5 g p;have u:=U0 (hc.o.below p hc.o.lt)
 go_wp2_with(refine N7 rfl 213 _ _ rfl (B:=w.heap.size) (j:=k*4) rfl (vs:=xw x) rfl u.o r.o.1 (X5 rfl) Y0 ?_;intro z l n;rw[r.o.2]at l;have C:=U0 l;have bz:=t.trans (n.below A8);clear l n)
 go_roundw;exact⟨k+1,O0,by go_num,bz,C⟩;exact V9
theorem a4o(a:OA)(cap:Nat)(is:List Int)(w:World)(hl:is.length<=1048576)(q:Zf w a is):
 Calls prog 27 #[Sa a is.length cap] w λe w'=>(∃v,e=Sf v/\au w.heap.size w' Zf 3 1 is v)/\Bw w w':=by
 obtain⟨b,off,hc⟩:=Vg q;have A:=U0 hc;clear hc q;have hmk:=Ny (z:=[Sc Se 0]) underlying31 (show(prog.info? 3).map (λi=>(i.zero,i.size,i.bytes))=some (some (Sc Se 0),1,8) from Y0) rfl rfl U5 hl
 go_in
 go_wp2;go_loopw[4] (λi wr=>∃(k:Nat),k<=is.length/\i=Sc Se k/\Below w.heap.size w wr/\Hid (Cl wr w.heap.size 3 (qw is (λx=>[Sc Se x]) [Sc Se 0] k))) (λi _=>is.length-(RowKit.intOf i).toNat);exact⟨0,Y4 _,rfl,U6,I4 _ _ _⟩;obtain⟨k,hk,rfl,g,hc⟩:=hrel;by_cases c:k<is.length;rotate_left
 ·obtain rfl:k=is.length:=O0;have hd:Hid (au w.heap.size wr Zf 3 1 is _):=Jm (d:=0) (λ_=>rfl) (λu a is h=>h.imp id λ⟨b,o,h1,h2,y⟩=>⟨b,o,h1,h2,λi s=>by have:=y i s 0 _ rfl;rwa[Pm]at this⟩) hc.o;go_wp2;go_ret;exact⟨⟨_,rfl,hd.o⟩,g⟩
 obtain⟨ha,t,n⟩:=Ud A.o c;subst ha;have g0:=(g.cell (by exact t)).trans (n k c);have j:=U0 (Vm (d:=0) (z:=[Sc Se 0]) (f:=(λx=>[Sc Se x])) (m:=1) (λ_=>rfl) rfl c);generalize is.getD k 0=x at*;clear n
 go_wp2_with(refine Qc rfl 3 _ _ rfl (p:=k) rfl rfl Y0 hc.o (by have:=j.o.1;simp at this;omega) ?_;intro z r l;have B:Hid (Cl z w.heap.size 3 (qw is (λx=>[Sc Se x]) [Sc Se 0] (k+1))):=(by rw[<- j.o.2,Pm,<- FN (by have:=j.o.1;simp at this;omega)];exact r.o);have bz:=g.trans (l.below A8);clear r l)
 go_roundw;exact⟨k+1,O0,by go_num,bz,B⟩;exact V9
theorem iZ(a:OA)(cap:Nat)(is:LB)(w:World)(hl:is.length<=1048576)(q:J8 w a is):
 Calls prog 28 #[Sa a is.length cap] w λe w'=>(∃v,e=Sf v/\au w.heap.size w' J8 9 1 is v)/\Bw w w':=by
 obtain⟨b,off,hc⟩:=Aa q;have A:=U0 hc;clear hc q;have hmk:=Ny (z:=[Sb ⟨#[]⟩]) underlying22 (show(prog.info? 9).map (λi=>(i.zero,i.size,i.bytes))=some (some (Sb ⟨#[]⟩),1,16) from Y0) rfl rfl U5 hl
 go_in
 go_wp2;go_loopw[4] (λi wr=>∃(k:Nat),k<=is.length/\i=Sc Se k/\Below w.heap.size w wr/\Hid (Cl wr w.heap.size 9 (qw is (λx=>[Sb x]) [Sb ⟨#[]⟩] k))) (λi _=>is.length-(RowKit.intOf i).toNat);exact⟨0,Y4 _,rfl,U6,I4 _ _ _⟩;obtain⟨k,hk,rfl,g,hc⟩:=hrel;by_cases c:k<is.length;rotate_left
 ·obtain rfl:k=is.length:=O0;have hd:Hid (au w.heap.size wr J8 9 1 is _):=Jm (d:=ByteArray.empty) (λ_=>rfl) (λu a is h=>h.imp id λ⟨b,o,h1,h2,y⟩=>⟨b,o,h1,h2,λi s=>by have:=y i s 0 _ rfl;rwa[Pm]at this⟩) hc.o;go_wp2;go_ret;exact⟨⟨_,rfl,hd.o⟩,g⟩
 obtain⟨ha,t,n⟩:=Ud A.o c;subst ha;have g0:=(g.cell (by exact t)).trans (n k c);have j:=U0 (Vm (d:=ByteArray.empty) (z:=[Sb ⟨#[]⟩]) (f:=(λx=>[Sb x])) (m:=1) (λ_=>rfl) rfl c);generalize is.getD k ByteArray.empty=x at*;clear n
 go_wp2_with(refine Qc rfl 9 _ _ rfl (p:=k) rfl rfl Y0 hc.o (by have:=j.o.1;simp at this;omega) ?_;intro z r l;have B:Hid (Cl z w.heap.size 9 (qw is (λx=>[Sb x]) [Sb ⟨#[]⟩] (k+1))):=(by rw[<- j.o.2,Pm,<- FN (by have:=j.o.1;simp at this;omega)];exact r.o);have bz:=g.trans (l.below A8);clear r l)
 go_roundw;exact⟨k+1,O0,by go_num,bz,B⟩;exact V9
end Go.Proofs.YtdgneicbmalnpaaGreatDoor
namespace Go.Proofs.YtdgneicbmalnpaaGreatDoor
open Proofs.Tryz Go.RowKit
theorem c117(x:R3)(a:OA)(b:Nat)(w:World)(hl:x.gs.length<=1048576)(i:R_ w a x.gs):
 Calls prog 117 #[.agg #[Sb x.key,Sa a x.gs.length b,Sb x.o]] w λe w'=>(∃v,e=Sf (.agg #[Sb x.key,v,Sb x.o])/\au w.heap.size w' R_ 235 3 x.gs v)/\Bw w w':=by
 have l:=U0 i
 go_in
 go_upto_region 2 with fail
 have H:=U0 (Uj (w:=w) (ta:=166) (tr:=179) (ar:=[Sb x.key,Sa a x.gs.length b,Sb x.o]) (zs:=[Sb ⟨#[]⟩,Sa none 0 0,Sb ⟨#[]⟩]));generalize ((w.alloc (Sg #[Sb x.key,Sa a x.gs.length b,Sb x.o] 166)).alloc (Sg #[Sb ⟨#[]⟩,Sa none 0 0,Sb ⟨#[]⟩] 179)).alloc (Sg #[Sb ⟨#[]⟩,Sa none 0 0,Sb ⟨#[]⟩] 179)=V at*
 go_wp2_with(first|(refine J7 H.o.ca rfl _ _ rfl rfl rfl Y0 ?_)|(refine Ye H.o rfl 9 _ _ rfl (j:=0) (Sb x.key) rfl rfl rfl (Xa rfl) Y0 ?_;clear H;intro V H))
 refine(a5T a b x.gs V hl (YV (y9 l H.o.bel))).mono ?_;rintro e V1⟨⟨_,rfl,d,c,rfl,g,hk⟩,f⟩
 replace H:=U0 (H.o.call f (AU hk H.o.bel.size))
 go_wp2_with(first|(refine J7 H.o.ca rfl _ _ rfl rfl rfl Y0 ?_)|(refine Ye H.o rfl 177 _ _ rfl (j:=1) (Sa d x.gs.length c) rfl rfl rfl (Xa rfl) Y0 ?_;clear H;intro V H)|(refine Ye H.o rfl 9 _ _ rfl (j:=2) (Sb x.o) rfl rfl rfl (Xa rfl) Y0 ?_;clear H;intro V H)|(refine wC H.o rfl 179 _ rfl [Sb x.key,Sa d x.gs.length c,Sb x.o] rfl rfl underlying179 rfl Y0 ?_)|(refine IC H.o rfl 179 _ _ rfl [Sb x.key,Sa d x.gs.length c,Sb x.o] rfl rfl rfl rfl Y0 ?_;clear H;intro z k hk f))
 exact P7 (l7 (P:=prog) (ty:=179) rfl _ z (w.heap.size+1) [Sb x.key,Sa d x.gs.length c,Sb x.o] _ rfl k underlying179 rfl Y0) rfl ⟨⟨_,rfl,_,_,rfl,g,hk.imp (λu h=>⟨xZ h.2.1,h.2.2⟩)⟩,f⟩
theorem c72(a:OA)(cap:Nat)(is:List R3)(w:World)(hl:is.length<=1048576)(hs:∀i,(R3.gs (is.getD i d_)).length<=1048576)(C:ug w a is):
 Calls prog 72 #[Sa a is.length cap] w λe w'=>(∃v,e=Sf v/\a1V w.heap.size w' ug 179 3 1 235 3 is v)/\Bw w w':=by
 obtain⟨b,off,hc⟩:=Hf C;have S:=U0 hc;have E:=U0 hs;clear hc C hs;have hmk:=Ny (z:=[Sb ⟨#[]⟩,Sa none 0 0,Sb ⟨#[]⟩]) underlying41 (show(prog.info? 179).map (λi=>(i.zero,i.size,i.bytes))=some (some (.agg #[Sb ⟨#[]⟩,Sa none 0 0,Sb ⟨#[]⟩]),3,56) from Y0) rfl rfl U5 hl
 go_in
 go_wp2;go_loopw[4] (λi wr=>∃(k:Nat)(ps:List (R3×Value)),k<=is.length/\i=Sc Se k/\Below w.heap.size w wr/\Hid (ps.map Prod.fst=is.take k)/\Hid (Cl wr w.heap.size 179 (ps.flatMap NJ++zs [Sb ⟨#[]⟩,Sa none 0 0,Sb ⟨#[]⟩] (is.length-k)))/\Hid (∀p∈ps,au (w.heap.size+1) wr R_ 235 3 (R3.gs p.1) p.2)) (λi _=>is.length-(RowKit.intOf i).toNat);exact⟨0,[],Y4 _,rfl,U6,rfl,I4 _ _ _,λp c=>absurd c Oo⟩;obtain⟨k,ps,hk,rfl,q,c,hc,D⟩:=hrel;by_cases n:k<is.length;rotate_left
 ·obtain rfl:k=is.length:=O0;have hd:=U0 (ML (d:=d_) (f:=NJ) (m:=3) (j:=1) (RS:=ug) (λ_=>rfl) (λ_=>rfl) E.o (λu g J h=>.inr ⟨g,0,rfl,J,λi I=>by obtain⟨t,s,hB,L⟩:=h i I;exact⟨t,s,hB 0 _ rfl,hB 1 _ rfl,hB 2 _ rfl,L⟩⟩) c.o hc.o D.o);go_wp2;go_ret;exact⟨⟨_,rfl,hd.o⟩,q⟩
 obtain⟨ha,K,A⟩:=Ud S.o n;subst ha;obtain⟨t,s,g0,g1,g2,O⟩:=(A k n).below K q;have H:=E.o k;have y:=U0 (iL (d:=d_) (z:=[Sb ⟨#[]⟩,Sa none 0 0,Sb ⟨#[]⟩]) (f:=NJ) (m:=3) (λ_=>rfl) rfl c.o n);generalize is.getD k d_=x at*;clear A
 go_wp2_with fail
 refine(c117 x t s wr H O).mono ?_;rintro e w1⟨⟨v,rfl,hv⟩,o⟩;have N:=E5 q o;have R:=U0 (hc.o.below o hc.o.lt);have P:=U0 (hv.low (b':=w.heap.size+1) (by have:=hc.o.lt;omega));have Q:Hid (∀p∈ps,au (w.heap.size+1) w1 R_ 235 3 (R3.gs p.1) p.2):=λp c=>(D p c).below o;have U:Hid (∀u∈NJ (x,v),u.oneCell'=true):=by
  obtain⟨_,_,rfl,_⟩:=hv;exact X5 rfl
 go_wp2_with(refine N7 rfl 179 _ _ rfl (B:=w.heap.size) (j:=k*3) rfl (vs:=NJ (x,v)) rfl R.o (y.o v).2.1 U.o Y0 ?_;intro z r l;rw[(y.o v).2.2]at r;have V:=U0 r;have bz:=N.trans (l.below A8);have F:=U0 l;clear r l)
 go_roundw
 ·refine⟨k+1,ps++[(x,v)],O0,by go_num,bz,(y.o v).1,V,λp c=>?_⟩;rcases Ph.1 c with h|h
  ·exact(Q p h).on F O0
  rw[Zj.1 h];exact P.o.on F O0
 exact V9
def StO(A:Nat)(u:World)(a:OA)(g:Nat)(s:St):Prop:=Vy A u a 9 s.ts.length/\Vy A u (some ⟨g,0,none⟩) 179 (s.rs.length*3)/\InO u g s.rs.length 3 1 235 3
theorem c26(ta ra:OA)(tc rc:Nat)(s:St)(w:World)(hs:s.le 1048576)(n:xh w ta ra s):
 Calls prog 26 #[.agg #[Sc Se s.wd,Sa ta s.ts.length tc,Sa ra s.rs.length rc]] w λe w'=>(∃a c g p,e=Sf (.agg #[Sc Se s.wd,Sa a s.ts.length c,Sa (some ⟨g,0,none⟩) s.rs.length p])/\Kp w.heap.size w' λu=>xh u a (some ⟨g,0,none⟩) s/\StO w.heap.size u a g s)/\Bw w w':=by
 have m:=U0 n;have l:=U0 hs
 go_in
 go_upto_region 2 with fail
 have H:=U0 (Uj (w:=w) (ta:=30) (tr:=43) (ar:=[Sc Se s.wd,Sa ta s.ts.length tc,Sa ra s.rs.length rc]) (zs:=[Sc Se 0,Sa none 0 0,Sa none 0 0]));generalize ((w.alloc (Sg #[Sc Se s.wd,Sa ta s.ts.length tc,Sa ra s.rs.length rc] 30)).alloc (Sg #[Sc Se 0,Sa none 0 0,Sa none 0 0] 43)).alloc (Sg #[Sc Se 0,Sa none 0 0,Sa none 0 0] 43)=V at*
 go_wp2_with(first|(refine J7 H.o.ca rfl _ _ rfl rfl rfl Y0 ?_)|(refine Ye H.o rfl 3 _ _ rfl (j:=0) (Sc Se s.wd) rfl rfl rfl (Xa rfl) Y0 ?_;clear H;intro V H))
 refine(iZ ta tc s.ts V l.o.1.1 (G6 m.o.1 H.o.bel)).mono ?_;rintro e V1⟨⟨_,rfl,k,d,rfl,_,hk⟩,b⟩
 replace H:=U0 (H.o.call b (LU hk H.o.bel.size))
 go_wp2_with(first|(refine J7 H.o.ca rfl _ _ rfl rfl rfl Y0 ?_)|(refine Ye H.o rfl 22 _ _ rfl (j:=1) (Sa k s.ts.length d) rfl rfl rfl (Xa rfl) Y0 ?_;clear H;intro V H))
 refine(c72 ra rc s.rs V l.o.2.1 (λi=>(l.o.2.2 i).2.1) (Ai m.o.2 H.o.bel)).mono ?_;rintro e V1⟨⟨_,rfl,f,c2,rfl,hk⟩,b⟩
 replace H:=U0 (H.o.call b (a4e hk H.o.bel.size))
 go_wp2_with(first|(refine J7 H.o.ca rfl _ _ rfl rfl rfl Y0 ?_)|(refine Ye H.o rfl 41 _ _ rfl (j:=2) (Sa (some ⟨f,0,none⟩) s.rs.length c2) rfl rfl rfl (Xa rfl) Y0 ?_;clear H;intro V H)|(refine wC H.o rfl 43 _ rfl [Sc Se s.wd,Sa k s.ts.length d,Sa (some ⟨f,0,none⟩) s.rs.length c2] rfl rfl underlying43 rfl Y0 ?_)|(refine IC H.o rfl 43 _ _ rfl [Sc Se s.wd,Sa k s.ts.length d,Sa (some ⟨f,0,none⟩) s.rs.length c2] rfl rfl rfl rfl Y0 ?_;clear H;intro z o hk b))
 exact P7 (l7 (P:=prog) (ty:=43) rfl _ z (w.heap.size+1) [Sc Se s.wd,Sa k s.ts.length d,Sa (some ⟨f,0,none⟩) s.rs.length c2] _ rfl o underlying43 rfl Y0) rfl ⟨⟨_,_,_,_,rfl,hk.imp (λu h=>⟨⟨h.1.2.1,h.2.1⟩,h.1.2.2,h.2.2.1,h.2.2.2⟩)⟩,b⟩
theorem c73(x:Rn)(b:OA)(c:Nat)(w:World)(hl:x.ls.length<=1048576)(i:O9 w b x.ls):
 Calls prog 73 #[.agg #[Sb x.nm,Sc Se x.md,Sb x.wt,Sa b x.ls.length c,Sc Se x.cd,Sb x.tx]] w λe w'=>(∃v,e=Sf (.agg #[Sb x.nm,Sc Se x.md,Sb x.wt,v,Sc Se x.cd,Sb x.tx])/\au w.heap.size w' O9 213 4 x.ls v)/\Bw w w':=by
 have l:=U0 i
 go_in
 go_upto_region 2 with fail
 have H:=U0 (Uj (w:=w) (ta:=104) (tr:=119) (ar:=[Sb x.nm,Sc Se x.md,Sb x.wt,Sa b x.ls.length c,Sc Se x.cd,Sb x.tx]) (zs:=[Sb ⟨#[]⟩,Sc Se 0,Sb ⟨#[]⟩,Sa none 0 0,Sc Se 0,Sb ⟨#[]⟩]));generalize ((w.alloc (Sg #[Sb x.nm,Sc Se x.md,Sb x.wt,Sa b x.ls.length c,Sc Se x.cd,Sb x.tx] 104)).alloc (Sg #[Sb ⟨#[]⟩,Sc Se 0,Sb ⟨#[]⟩,Sa none 0 0,Sc Se 0,Sb ⟨#[]⟩] 119)).alloc (Sg #[Sb ⟨#[]⟩,Sc Se 0,Sb ⟨#[]⟩,Sa none 0 0,Sc Se 0,Sb ⟨#[]⟩] 119)=V at*
 go_wp2_with(first|(refine J7 H.o.ca rfl _ _ rfl rfl rfl Y0 ?_)|(refine Ye H.o rfl 9 _ _ rfl (j:=0) (Sb x.nm) rfl rfl rfl (Xa rfl) Y0 ?_;clear H;intro V H)|(refine Ye H.o rfl 3 _ _ rfl (j:=1) (Sc Se x.md) rfl rfl rfl (Xa rfl) Y0 ?_;clear H;intro V H)|(refine Ye H.o rfl 9 _ _ rfl (j:=2) (Sb x.wt) rfl rfl rfl (Xa rfl) Y0 ?_;clear H;intro V H))
 refine(a6c b c x.ls V hl (mX (Q7 l H.o.bel))).mono ?_;rintro e V1⟨⟨_,rfl,f,d,rfl,g,hk⟩,a⟩
 replace H:=U0 (H.o.call a (AU hk H.o.bel.size))
 go_wp2_with(first|(refine D9 H.o.ca rfl 102 _ rfl (j:=4) [Sc Se x.cd,Sb x.tx] rfl rfl underlying102 rfl Y0 ?_)|(refine J7 H.o.ca rfl _ _ rfl rfl rfl Y0 ?_)|(refine Ye H.o rfl 116 _ _ rfl (j:=3) (Sa f x.ls.length d) rfl rfl rfl (Xa rfl) Y0 ?_;clear H;intro V H))
 refine(c119 x.cd x.tx V).mono ?_;rintro e V1⟨rfl,a⟩
 replace H:=U0 (H.o.call a (Q:=λ_=>True) (λ_ _ _=>trivial))
 go_wp2_with(first|(refine J7 H.o.ca rfl _ _ rfl rfl rfl Y0 ?_)|(refine XG H.o rfl 117 _ _ rfl (j:=4) [Sc Se x.cd,Sb x.tx] rfl rfl (Xa rfl) rfl Y0 ?_;clear H;intro V H)|(refine wC H.o rfl 119 _ rfl [Sb x.nm,Sc Se x.md,Sb x.wt,Sa f x.ls.length d,Sc Se x.cd,Sb x.tx] rfl rfl underlying119 rfl Y0 ?_)|(refine IC H.o rfl 119 _ _ rfl [Sb x.nm,Sc Se x.md,Sb x.wt,Sa f x.ls.length d,Sc Se x.cd,Sb x.tx] rfl rfl rfl rfl Y0 ?_;clear H;intro z k hk a))
 exact P7 (l7 (P:=prog) (ty:=119) rfl _ z (w.heap.size+1) [Sb x.nm,Sc Se x.md,Sb x.wt,Sa f x.ls.length d,Sc Se x.cd,Sb x.tx] _ rfl k underlying119 rfl Y0) rfl ⟨⟨_,rfl,_,_,rfl,g,hk.imp (λu h=>⟨jW h.1.2.1,h.1.2.2⟩)⟩,a⟩
theorem c29(a:OA)(cap:Nat)(is:List Rn)(w:World)(hl:is.length<=1048576)(hs:∀i,(Rn.ls (is.getD i L9)).length<=1048576)(C:Wi w a is):
 Calls prog 29 #[Sa a is.length cap] w λe w'=>(∃v,e=Sf v/\a1V w.heap.size w' Wi 119 6 3 213 4 is v)/\Bw w w':=by
 obtain⟨b,off,hc⟩:=Z_ C;have U:=U0 hc;have F:=U0 hs;clear hc C hs;have hmk:=Ny (z:=[Sb ⟨#[]⟩,Sc Se 0,Sb ⟨#[]⟩,Sa none 0 0,Sc Se 0,Sb ⟨#[]⟩]) underlying44 (show(prog.info? 119).map (λi=>(i.zero,i.size,i.bytes))=some (some (.agg #[Sb ⟨#[]⟩,Sc Se 0,Sb ⟨#[]⟩,Sa none 0 0,Sc Se 0,Sb ⟨#[]⟩]),6,88) from Y0) rfl rfl U5 hl
 go_in
 go_wp2;go_loopw[4] (λi wr=>∃(k:Nat)(ps:List (Rn×Value)),k<=is.length/\i=Sc Se k/\Below w.heap.size w wr/\Hid (ps.map Prod.fst=is.take k)/\Hid (Cl wr w.heap.size 119 (ps.flatMap Td++zs [Sb ⟨#[]⟩,Sc Se 0,Sb ⟨#[]⟩,Sa none 0 0,Sc Se 0,Sb ⟨#[]⟩] (is.length-k)))/\Hid (∀p∈ps,au (w.heap.size+1) wr O9 213 4 (Rn.ls p.1) p.2)) (λi _=>is.length-(RowKit.intOf i).toNat);exact⟨0,[],Y4 _,rfl,U6,rfl,I4 _ _ _,λp c=>absurd c Oo⟩;obtain⟨k,ps,hk,rfl,s,c,hc,D⟩:=hrel;by_cases q:k<is.length;rotate_left
 ·obtain rfl:k=is.length:=O0;have hd:=U0 (ML (d:=L9) (f:=Td) (m:=6) (j:=3) (RS:=Wi) (λ_=>rfl) (λ_=>rfl) F.o (λu g K h=>.inr ⟨g,0,rfl,K,λi J=>by obtain⟨n,l,hB,N⟩:=h i J;exact⟨n,l,hB,N⟩⟩) c.o hc.o D.o);go_wp2;go_ret;exact⟨⟨_,rfl,hd.o⟩,s⟩
 obtain⟨ha,L,A⟩:=Ud U.o q;subst ha;obtain⟨n,l,E,P⟩:=(A k q).below L s;have W:=U0 E;clear E;have I:=F.o k;have y:=U0 (iL (d:=L9) (z:=[Sb ⟨#[]⟩,Sc Se 0,Sb ⟨#[]⟩,Sa none 0 0,Sc Se 0,Sb ⟨#[]⟩]) (f:=Td) (m:=6) (λ_=>rfl) rfl c.o q);generalize is.getD k L9=x at*;clear A
 go_wp2_with(refine Oa rfl (N9 104 _ rfl (B:=b) (j:=off+k*6) (cs:=Td (x,Sa n x.ls.length l)) rfl W.o underlying104 rfl Y0) ?_)
 refine(c73 x n l wr I P).mono ?_;rintro e w1⟨⟨v,rfl,hv⟩,r⟩;have O:=E5 s r;have S:=U0 (hc.o.below r hc.o.lt);have Q:=U0 (hv.low (b':=w.heap.size+1) (by have:=hc.o.lt;omega));have R:Hid (∀p∈ps,au (w.heap.size+1) w1 O9 213 4 (Rn.ls p.1) p.2):=λp c=>(D p c).below r;have V:Hid (∀u∈Td (x,v),u.oneCell'=true):=by
  obtain⟨_,_,rfl,_⟩:=hv;exact X5 rfl
 go_wp2_with(refine N7 rfl 119 _ _ rfl (B:=w.heap.size) (j:=k*6) rfl (vs:=Td (x,v)) rfl S.o (y.o v).2.1 V.o Y0 ?_;intro z t o;rw[(y.o v).2.2]at t;have X:=U0 t;have bz:=O.trans (o.below A8);have H:=U0 o;clear t o)
 go_roundw
 ·refine⟨k+1,ps++[(x,v)],O0,by go_num,bz,(y.o v).1,X,λp c=>?_⟩;rcases Ph.1 c with h|h
  ·exact(R p h).on H O0
  rw[Zj.1 h];exact Q.o.on H O0
 exact V9
theorem c24(sa la:OA)(sc lc:Nat)(sf lo:LB)(w:World)(h1:sf.length<=1048576)(h2:lo.length<=1048576)(hs:J8 w sa sf)(hl:J8 w la lo):
 Calls prog 24 #[.agg #[Sa sa sf.length sc,Sa la lo.length lc]] w λe w'=>(∃a c i k,e=Sf (.agg #[Sa a sf.length c,Sa i lo.length k])/\lo.length<=k/\Kp w.heap.size w' λu=>(J8 u a sf/\Vy w.heap.size u a 9 sf.length)/\J8 u i lo/\Vy w.heap.size u i 9 lo.length)/\Bw w w':=by
 have o:=U0 hs;have n:=U0 hl
 go_in
 go_upto_region 2 with fail
 have H:=U0 (Uj (w:=w) (ta:=24) (tr:=37) (ar:=[Sa sa sf.length sc,Sa la lo.length lc]) (zs:=[Sa none 0 0,Sa none 0 0]));generalize ((w.alloc (Sg #[Sa sa sf.length sc,Sa la lo.length lc] 24)).alloc (Sg #[Sa none 0 0,Sa none 0 0] 37)).alloc (Sg #[Sa none 0 0,Sa none 0 0] 37)=V at*
 go_wp2_with(first|(refine J7 H.o.ca rfl _ _ rfl rfl rfl Y0 ?_))
 refine(iZ sa sc sf V h1 (G6 o H.o.bel)).mono ?_;rintro e V1⟨⟨_,rfl,g,d,rfl,_,hk⟩,b⟩
 replace H:=U0 (H.o.call b (LU hk H.o.bel.size))
 go_wp2_with(first|(refine J7 H.o.ca rfl _ _ rfl rfl rfl Y0 ?_)|(refine Ye H.o rfl 22 _ _ rfl (j:=0) (Sa g sf.length d) rfl rfl rfl (Xa rfl) Y0 ?_;clear H;intro V H))
 refine(iZ la lc lo V h2 (G6 n H.o.bel)).mono ?_;rintro e V1⟨⟨_,rfl,f,c2,rfl,l,hk⟩,b⟩
 replace H:=U0 (H.o.call b (LU hk H.o.bel.size))
 go_wp2_with(first|(refine J7 H.o.ca rfl _ _ rfl rfl rfl Y0 ?_)|(refine Ye H.o rfl 22 _ _ rfl (j:=1) (Sa f lo.length c2) rfl rfl rfl (Xa rfl) Y0 ?_;clear H;intro V H)|(refine wC H.o rfl 37 _ rfl [Sa g sf.length d,Sa f lo.length c2] rfl rfl underlying37 rfl Y0 ?_)|(refine IC H.o rfl 37 _ _ rfl [Sa g sf.length d,Sa f lo.length c2] rfl rfl rfl rfl Y0 ?_;clear H;intro z m hk b))
 exact P7 (l7 (P:=prog) (ty:=37) rfl _ z (w.heap.size+1) [Sa g sf.length d,Sa f lo.length c2] _ rfl m underlying37 rfl Y0) rfl ⟨⟨_,_,_,_,rfl,l,hk.imp (λu h=>⟨h.1.2,h.2⟩)⟩,b⟩
theorem c25(a:OA)(cap:Nat)(is:List T.F2)(w:World)(hl:is.length<=1048576)(g:T.P6 w a is):
 Calls prog 25 #[.agg #[Sa a is.length cap]] w λe w'=>(∃a c,e=Sf (.agg #[Sa a is.length c])/\Kp w.heap.size w' λu=>T.P6 u a is/\Vy w.heap.size u a 169 (is.length*2))/\Bw w w':=by
 have k:=U0 g
 go_in
 go_upto_region 2 with fail
 have H:=U0 (Uj (w:=w) (ta:=27) (tr:=40) (ar:=[Sa a is.length cap]) (zs:=[Sa none 0 0]));generalize ((w.alloc (Sg #[Sa a is.length cap] 27)).alloc (Sg #[Sa none 0 0] 40)).alloc (Sg #[Sa none 0 0] 40)=V at*
 go_wp2_with(first|(refine J7 H.o.ca rfl _ _ rfl rfl rfl Y0 ?_))
 refine(c71 a cap is V hl (QZ (T.J5 k H.o.bel))).mono ?_;rintro e V1⟨⟨_,rfl,d,b,rfl,hq,hk⟩,f⟩
 replace H:=U0 (H.o.call f (AU hk H.o.bel.size))
 go_wp2_with(first|(refine J7 H.o.ca rfl _ _ rfl rfl rfl Y0 ?_)|(refine Ye H.o rfl 38 _ _ rfl (j:=0) (Sa d is.length b) rfl rfl rfl (Xa rfl) Y0 ?_;clear H;intro V H)|(refine wC H.o rfl 40 _ rfl [Sa d is.length b] rfl rfl underlying40 rfl Y0 ?_)|(refine IC H.o rfl 40 _ _ rfl [Sa d is.length b] rfl rfl rfl rfl Y0 ?_;clear H;intro z i hk f))
 exact P7 (l7 (P:=prog) (ty:=40) rfl _ z (w.heap.size+1) [Sa d is.length b] _ rfl i underlying40 rfl Y0) rfl ⟨⟨_,_,rfl,hk.imp (λu h=>⟨a3J h.2.1,h.2.2⟩)⟩,f⟩
