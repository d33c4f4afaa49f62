import Derived.Test.YtkccjgajimjjdaaGreatDooreYI
import Derived.Test.YtkccjgajimjjdaaGreatDoortT0
import Derived.RangeFuncNested
import Derived.RangeFuncBound
import Derived.RangeFuncCalls
import Derived.RangeFuncLeaves
import Derived.Shelf.Abstract
import Derived.Shelf.AbstractIn
import Derived.Shelf.RegionOpen
import Derived.OwnWalkIn
import Derived.TacticsInMore
import Derived.LoopNIn
import Derived.LoopIn
set_option linter.unusedVariables false
set_option maxHeartbeats 8000000
set_option maxRecDepth 100000
namespace Go.Proofs.YtkccjgajimjjdaaGreatDoor
open Proofs.Tryz Go.RowKit Go.Maps Go.Sort Go.Shelf
variable{S X j n:Nat}{A B:World}
attribute [local go_sem] Oper.semAt_some
theorem lQ(s:BY):encStr s.data.toList=.string s:=by
 unfold encStr
 congr 1
theorem iI{k:Nat}(h:k<n):(List.finRange n).take (k+1)=(List.finRange n).take k++[⟨k,h⟩]:=by
 rw[Yr,L9 (by simpa using h)];simp
def fB(W:World)(S j:Nat):Option Nat:=(W.cell? ⟨S,j,none⟩).bind Value.ownBlock
structure jB(S j X:Nat)(W W':World):Prop where
 size:W.heap.size<=W'.heap.size
 same:∀k o,W.heap[k]?=some o->(o.isCells=true\/o.isWalk=true)->(∀cur fr,o≠.cells cur X fr)->k≠S->fB W S j≠some k->W'.heap[k]?=some o
 fld:fB W' S j=fB W S j\/∃q,fB W' S j=some q/\W.heap.size<=q
theorem jB.refl(S j X:Nat)(W:World):jB S j X W W:=⟨J8 _,λ_ _ h _ _ _ _=>h,.inl rfl⟩
theorem jB.trans{C:World}(h:jB S j X A B)(k:jB S j X B C):jB S j X A C:=by
 refine⟨I8 h.size k.size,λi o ho hc b c hf=>?_,?_⟩
 ·have hi:=(Eb.1 ho).1;refine k.same i o (h.same i o ho hc b c hf) hc b c ?_;rcases h.fld with e|⟨q,e,a⟩
  ·rw[e];exact hf
  rw[e];intro d;have:=I_ d;omega
 rcases k.fld with e|⟨q,e,a⟩
 ·rw[e];exact h.fld
 exact .inr ⟨q,e,I8 h.size a⟩
theorem jB.cell(h:jB S j X A B)(hf:fB A S j=none){p:Addr}(a:p.block≠S){t:TypeId}(hT:Ah A p.block t)(ht:t≠X):B.cell? p=A.cell? p:=by
 obtain⟨cur,fr,e⟩:=hT;have b:=h.same _ _ e (.inl rfl) (λcur' fr' c=>by cases c;exact ht rfl) a (by rw[hf];simp);unfold World.cell?;rw[e,b]
theorem jB.map(h:jB S j X A B)(hf:fB A S j=none){k:TypeId}{R:Value->Option (DataW Value×List MemPlace)}{b n:Nat}{D:DataW Value}(c:b≠S)(hm:A.ownsMap prog k R b n D):B.ownsMap prog k R b n D:=by
 obtain⟨es,d,a,r⟩:=hm;exact⟨es,d,h.same b _ a (.inr rfl) (λ_ _ e=>by cases e) c (by rw[hf];simp),r⟩
theorem Yz{w:World}{B e:Nat}{va:OA}{b:Nat}{xs:List Value}(h:w.ownsRow B e 1 (.slice va n b) n xs):n=0\/∃g,va=some ⟨g,0,none⟩/\B<=g/\g<w.heap.size/\Ah w g e/\∀k,k<n->w.cell? ⟨g,k,none⟩=some (xs.getD k undef):=by
 have c:=h;rcases h.2 with⟨hv,h0⟩|⟨g,cap,cur,hv,d,a,_⟩
 ·exact .inl h0
 simp only[Xt]at hv;obtain⟨rfl,_,rfl⟩:=hv;refine .inr ⟨g,rfl,d,(Eb.1 a).1,⟨cur,(0,0),a⟩,λk hk=>?_⟩;have hx:k<xs.length:=by have:=h.1;omega
 rw[c.cellAt k O0];simp only[List.getD,L9 hx,jh]
theorem eY(l:List (ByteArray×Value)){k:Nat}(h:k<l.length):(l.map λp=>Value.string p.1).getD k undef=.string (l[k]'(h)).1:=by
 simp only[List.getD,Rt,L9 h,Iw,jh]
theorem JY(l:List Value){k:Nat}(h:k<l.length):((List.range l.length).map λi:Nat=>Value.int .i64 (i:Int)).getD k undef=.int .i64 (k:Int):=by
 simp only[List.getD,Rt,List.getElem?_range h,Iw,jh]
theorem a0z(m:Nat):AnyZ.SortsIn prog Tryz.sortedA_ren Fence.wide m:=
 ⟨λblk off cap ss W hH b a=>callsIn_wide.2 (AnyM.slices_Sort_string Tryz.sortA blk off cap ss W hH b a),
  λp cap W=>callsIn_wide.2 (AnyM.slices_Sort_string_none Tryz.sortA p cap W)⟩
theorem a3q(S j h b B:Nat)(l:List (ByteArray×Value))(w:World)(hA:Asc l)(hks:∀p∈l,p.1.size<=maxLen)(hl:l.length<=1000)(x:h<w.heap.size)(hm:w.cell? ⟨h,0,none⟩=some (.map (some b)))(t:w.ownsMap prog 9 Ub b B (mapD l))(hTm:Ah w h 232)(hSB:h≠S)(hSw:S<w.heap.size)(hbS:b≠S)(O:fB w S j=none):
 SeqStopsK Fence.wide 10 prog 236 #[.pointer (some ⟨h,0,none⟩)] (λi:Fin l.length=>#[(l[i.1]'(i.2)).2]) (jB S j 240) (λxs=>xs=List.finRange l.length) (λ_=>True) l.length w:=λL J Jx W f hJ hJx R h0=>by
 have I:=(f.cell (by exact x)).trans hm;have q:=Xd t f t.lt;have K:fB W S j=none:=by unfold fB;rw[f.cell (p:=⟨S,j,none⟩) hSw];exact O
 have V:=U9 x f.size;have hbl:=q.lt;clear hm t O;have D:SeqGives Fence.wide 6 prog 279 #[.pointer (some ⟨W.heap.size,0,none⟩)] encStr (λss=>ss.Perm (strKeys (mapD l))) (Maps.size (mapD l)) (W.alloc (.cells #[.map (some b)] 232)):=
  AnyZ.keys_gives (ρ:=Tryz.keysA_ren) { Tryz.keysA with } Fence.wide _ trivial rfl O0 W.heap.size b B (mapD l) _ E5 E5 (q.alloc _)
 have Y:∀n W,CallsIn Fence.wide 9 prog 238 #[.map n] W λe w'=>e=.returned (.func (.func 279) #[] #[.pointer (some ⟨W.heap.size,0,none⟩)])/\w'=W.alloc (.cells #[.map n] 232):=λn W=>AnyZ.keys_in Tryz.keysA Fence.wide 9 trivial rfl n W;have y:=AnyZ.sorted_in Tryz.sortedA Fence.wide 9 trivial trivial trivial trivial rfl O0 (a0z _) (enters_of func278 Y1 rfl) 279 #[.pointer (some ⟨W.heap.size,0,none⟩)] trivial (enters_of func279 Y1 rfl) _ _ (by rw[Ad];unfold maxLen;omega) (by rw[Ad];omega) _ D;change CallsIn _ _ prog 237 _ _ _ at y;have X:CallsIn Fence.wide 9 prog 237 #[.func (.func 279) #[] #[.pointer (some ⟨W.heap.size,0,none⟩)]] (W.alloc (.cells #[.map (some b)] 232)) λe w'=>∃va m,e=.returned (vL va l.length m)/\Hid (w'.ownsRow (W.heap.size+1) 9 1 (vL va l.length m) l.length (l.map λp=>Value.string p.1))/\Bw W w':=by
  refine y.mono ?_;rintro e w'⟨v,ss,rfl,U,c,hnil,d⟩;have hlen:ss.length=l.length:=by rw[U.length_eq];rw[nD];simp
  rw[oI hA U]at c;rw[Nw,show(encStr∘λp:BY×Value=>p.1.data.toList)=λp=>Value.string p.1 from funext λp=>lQ p.1]at c;rw[hlen]at c;have E:=P7 c (base':=W.heap.size+1) E5;obtain⟨va,m,rfl⟩:=V9 E;exact⟨va,m,rfl,E,((G5 _ W).alloc X7 _).trans (d.mono E5)⟩
 have hfK:Fence.wide.fn 238:=trivial;have hfS:Fence.wide.fn 237:=trivial;clear y D;refine callsIn_of_wp func236 rfl trivial ?_ rfl;simp only[ntmps236,Zy,u_,Td,Nat.reduceAdd,Nat.reduceSub,qA,aB,UA,Oz,j_,Zf]
 gi_wp2_with (first
  | (gi_at_call 238;refine(Y _ _).mono ?_;rintro e w'⟨rfl,rfl⟩)
  | (gi_at_call 237;refine X.mono ?_;rintro e s⟨va,m,rfl,c,d⟩))
 clear Y X;have hJ1:J [] s:=hJ [] W s none h0 (Yf d) (λ_ e=>by cases e);have hT1:=(hTm.below f x).below d V;have hm1:=(d.cell (by exact V)).trans I;have H:=Xd q d hbl;have N:fB s S j=none:=by unfold fB;rw[d.cell (p:=⟨S,j,none⟩) (Nat.lt_of_lt_of_le hSw f.size)];exact K
 have P:=Yz c.out;have hSW1:=U9 hSw f.size;have HO:=U0 H;have A:=U0 N;have HC:=U0 P;clear H N P c q K I
 gi_loopw[9] (λi wr=>∃k:Nat,k<=l.length/\i=vI k/\J ((List.finRange l.length).take k) wr/\jB S j 240 s wr) (λi _=>l.length-(Go.RowKit.intOf i).toNat)
 case atStart=>exact⟨0,J4 _,rfl,hJ1,jB.refl _ _ _ _⟩
 case round=>
  obtain⟨k,hk,rfl,u,r⟩:=hrel;by_cases a:k<l.length
  ·rcases HC.out with h0'|⟨g,Z,hgW,hgw,hTg,hcell⟩
   ·omega
   subst Z;have hgS:g≠S:=O0;have Q:=(r.cell A.out (p:=⟨g,k,none⟩) hgS hTg Z5).trans (hcell k a);have hb3:=(r.cell A.out (p:=⟨h,0,none⟩) hSB hT1 Z5).trans hm1;have F:=r.map A.out hbS HO.out;have o:=mJ (k:=(l[k]'(a)).1) (z:=.agg #[vE,vO,vE]) F underlying232 Y1 (hks _ (Zj a));rw[Wp hA (k:=(l[k]'(a)).1) (v:=(l[k]'(a)).2) (Zj a)]at o;rw[jh]at o;rw[eY l a]at Q;obtain⟨fn,tmps,assign,body,C,hR⟩:=R _ ⟨k,a⟩ wr u (by rw[U_,List.length_finRange];omega);dsimp only at C;clear R F;generalize hgk:(l[k]'(a)).1=kk at o Q;generalize hvk:(l[k]'(a)).2=vk at o C
   gi_wp2
   refine hR.mono ?_;rintro e W3 (⟨rfl,hJ3,hk3⟩|⟨rfl,hJx3⟩)
   ·gi_wp2
    go_roundw;exact⟨k+1,O0,by go_num,by rw[iI a];exact hJ3,r.trans hk3⟩;exact Z9
   gi_wp2
   refine Q7 (results_none rfl _ _ _) rfl ?_;exact⟨⟨_,rfl⟩,.inr ⟨_,trivial,hJx3⟩⟩
  obtain rfl:k=l.length:=O0
  gi_wp2
  go_end0
  exact⟨⟨_,rfl⟩,.inl ⟨_,rfl,by rw[C_ E5]at u;exact u⟩⟩
theorem a1b(m:Nat):AnyZI.SortsIn prog Tryz.sortedB_ren Fence.wide m:=
 ⟨λblk off cap ss W hH b a=>callsIn_wide.2 (AnyM.slices_Sort_int Tryz.sortB blk off cap ss W hH b a),
  λp cap W=>callsIn_wide.2 (AnyM.slices_Sort_int_none Tryz.sortB p cap W)⟩
theorem a5F(S j h b A:Nat)(l:List Value)(w:World)(hl:l.length<=1000)(u:h<w.heap.size)(hm:w.cell? ⟨h,0,none⟩=some (.map (some b)))(s:w.ownsMap prog 3 Ub b A (intD l))(hTm:Ah w h 233)(hSB:h≠S)(hSw:S<w.heap.size)(hbS:b≠S)(O:fB w S j=none):
 SeqStopsK Fence.wide 10 prog 239 #[.pointer (some ⟨h,0,none⟩)] (λi:Fin l.length=>#[(l[i.1]'(i.2))]) (jB S j 162) (λxs=>xs=List.finRange l.length) (λ_=>True) l.length w:=λL J Jx W f hJ hJx Q h0=>by
 have I:=(f.cell (by exact u)).trans hm;have o:=Xd s f s.lt;have K:fB W S j=none:=by unfold fB;rw[f.cell (p:=⟨S,j,none⟩) hSw];exact O
 have U:=U9 u f.size;have hbl:=o.lt;clear hm s O;have C:SeqGives Fence.wide 6 prog 282 #[.pointer (some ⟨W.heap.size,0,none⟩)] encZ (λss=>ss.Perm (intKeys (intD l))) (Maps.size (intD l)) (W.alloc (.cells #[.map (some b)] 233)):=
  AnyZI.keys_gives (ρ:=Tryz.keysB_ren) { Tryz.keysB with } Fence.wide _ trivial rfl O0 W.heap.size b A (intD l) _ E5 E5 (o.alloc _)
 have X:∀n W,CallsIn Fence.wide 9 prog 241 #[.map n] W λe w'=>e=.returned (.func (.func 282) #[] #[.pointer (some ⟨W.heap.size,0,none⟩)])/\w'=W.alloc (.cells #[.map n] 233):=λn W=>AnyZI.keys_in Tryz.keysB Fence.wide 9 trivial rfl n W;have x:=AnyZI.sorted_in Tryz.sortedB Fence.wide 9 trivial trivial trivial trivial rfl O0 (a1b _) (enters_of func281 Y1 rfl) 282 #[.pointer (some ⟨W.heap.size,0,none⟩)] trivial (enters_of func282 Y1 rfl) _ _ (by rw[Om];unfold maxLen;omega) (by rw[Om];omega) _ C;change CallsIn _ _ prog 240 _ _ _ at x;have V:CallsIn Fence.wide 9 prog 240 #[.func (.func 282) #[] #[.pointer (some ⟨W.heap.size,0,none⟩)]] (W.alloc (.cells #[.map (some b)] 233)) λe w'=>∃va m,e=.returned (vL va l.length m)/\Hid (w'.ownsRow (W.heap.size+1) 3 1 (vL va l.length m) l.length ((List.range l.length).map λi:Nat=>Value.int .i64 (i:Int)))/\Bw W w':=by
  refine x.mono ?_;rintro e w'⟨v,ss,rfl,R,c,hnil,d⟩;have hlen:ss.length=l.length:=by rw[R.length_eq];rw[tC];simp
  rw[WH R]at c;rw[Nw]at c;rw[hlen]at c;have D:=P7 c (base':=W.heap.size+1) E5;obtain⟨va,m,rfl⟩:=V9 D;exact⟨va,m,rfl,D,((G5 _ W).alloc X7 _).trans (d.mono E5)⟩
 have hfK:Fence.wide.fn 241:=trivial;have hfS:Fence.wide.fn 240:=trivial;clear x C;refine callsIn_of_wp func239 rfl trivial ?_ rfl;simp only[ntmps239,Zy,u_,Td,Nat.reduceAdd,Nat.reduceSub,qA,aB,UA,Oz,j_,Zf]
 gi_wp2_with (first
  | (gi_at_call 241;refine(X _ _).mono ?_;rintro e w'⟨rfl,rfl⟩)
  | (gi_at_call 240;refine V.mono ?_;rintro e r⟨va,m,rfl,c,d⟩))
 clear X V;have hJ1:J [] r:=hJ [] W r none h0 (Yf d) (λ_ e=>by cases e);have hT1:=(hTm.below f u).below d U;have Z:=(d.cell (by exact U)).trans I;have H:=Xd o d hbl;have N:fB r S j=none:=by unfold fB;rw[d.cell (p:=⟨S,j,none⟩) (Nat.lt_of_lt_of_le hSw f.size)];exact K
 have P:=Yz c.out;have hSW1:=U9 hSw f.size;have HO:=U0 H;have y:=U0 N;have HC:=U0 P;clear H N P c o K I
 gi_loopw[9] (λi wr=>∃k:Nat,k<=l.length/\i=vI k/\J ((List.finRange l.length).take k) wr/\jB S j 162 r wr) (λi _=>l.length-(Go.RowKit.intOf i).toNat)
 case atStart=>exact⟨0,J4 _,rfl,hJ1,jB.refl _ _ _ _⟩
 case round=>
  obtain⟨k,hk,rfl,t,q⟩:=hrel;by_cases a:k<l.length
  ·rcases HC.out with h0'|⟨g,Y,hgW,hgw,hTg,hcell⟩
   ·omega
   subst Y;have hgS:g≠S:=O0;have hc3:=(q.cell y.out (p:=⟨g,k,none⟩) hgS hTg Z5).trans (hcell k a);have hb3:=(q.cell y.out (p:=⟨h,0,none⟩) hSB hT1 Z5).trans Z;have F:=q.map y.out hbS HO.out;have E:=KQ (k:=k) (z:=.agg #[vE,vN,vE]) F underlying233 Y1 O0 a;rw[show l.getD k undef=l[k]'(a) from by simp only[List.getD,L9 a,jh]]at E;rw[JY l a]at hc3;obtain⟨fn,tmps,assign,body,B,hR⟩:=Q _ ⟨k,a⟩ wr t (by rw[U_,List.length_finRange];omega);dsimp only at B;clear Q F;generalize hvk:(l[k]'(a))=vk at E B
   gi_wp2
   refine hR.mono ?_;rintro e W3 (⟨rfl,hJ3,hk3⟩|⟨rfl,hJx3⟩)
   ·gi_wp2
    go_roundw;exact⟨k+1,O0,by go_num,by rw[iI a];exact hJ3,q.trans hk3⟩;exact Z9
   gi_wp2
   refine Q7 (results_none rfl _ _ _) rfl ?_;exact⟨⟨_,rfl⟩,.inr ⟨_,trivial,hJx3⟩⟩
  obtain rfl:k=l.length:=O0
  gi_wp2
  go_end0
  exact⟨⟨_,rfl⟩,.inl ⟨_,rfl,by rw[C_ E5]at t;exact t⟩⟩
open Go.RowKit
def zs(z:List Value)(m:Nat):List Value:=(List.replicate m z).flatten
section
variable{z ys vs:List Value}{k n j b o:Nat}{w w':World}{cs:List Value}
theorem NI:(zs z n).length=n*z.length:=by
 unfold zs;simp
theorem zF:zs z (n+1)=z++zs z n:=by
 unfold zs;simp[List.replicate_succ]
theorem BQ:∀(n j:Nat),j<n*z.length->(zs z n)[j]?=z[j % z.length]?
 | 0,j,h=>by simp at h
 | n+1,j,h=>by
  rw[zF];by_cases a:j<z.length
  ·rw[G_ a,Nat.mod_eq_of_lt a]
  rw[Ue O0,BQ n (j-z.length) (by rw[Tj]at h;omega),<- Nat.mod_eq_sub_mod O0]
theorem KL(z:List Value)(n:Nat):madeCells z.toArray (n*z.length)=(zs z n).toArray:=by
 apply Array.ext
 ·simp[size_madeCells,NI]
 intro i h1 h2;have a:i<n*z.length:=by simpa[size_madeCells]using h1
 have b:i % z.length<z.length:=KE _ (by rcases Jw z.length with h|h;(rw[h]at a;omega);exact h);have e:=BQ (z:=z) n i a;have l:i<(zs z n).length:=by rw[NI];exact a
 rw[L9 l,L9 b]at e;injection e with e;simp[madeCells,b,e]
theorem wQ(a:ys.length=k*z.length)(hv:vs.length=z.length)(hk:k<n):Nr (ys++zs z (n-k)) (k*z.length) vs=(ys++vs)++zs z (n-(k+1)):=by
 unfold Nr;rw[show n-k=(n-(k+1))+1 by omega,zF,<- a,hv];simp[List.drop_append]
theorem zU(a:ys.length=k*z.length)(hv:vs.length=z.length)(hk:k<n):k*z.length+vs.length<=(ys++zs z (n-k)).length:=by
 rw[P9,NI,a,hv,show n-k=(n-(k+1))+1 by omega,Tj];omega
def Bc(w:World)(b o:Nat)(cs:List Value):Prop:=∀q v,cs[q]?=some v->w.cell? ⟨b,o+q,none⟩=some v
theorem Bc.below(h:Bc w b o cs)(hl:b<w.heap.size)(a:Bw w w'):Bc w' b o cs:=λq v e=>(a.cell (by exact hl)).trans (h q v e)
theorem aZ{t:TypeId}(h:Cl w b t ys)(a:∀q v,cs[q]?=some v->ys[o+q]?=some v):Bc w b o cs:=λq v e=>(h.cell _).trans (a q v e)
end
def vw{α:Type}(w:World)(a:OA)(is:List α)(d:α)(n:Nat)(P:World->Nat->Nat->α->Prop):Prop:=is=[]\/∃b off,a=some ⟨b,off,none⟩/\b<w.heap.size/\∀i,i<is.length->P w b (off+i*n) (is.getD i d)
section
variable{α:Type}{w w':World}{a:OA}{is:List α}{d:α}{n:Nat}{P:World->Nat->Nat->α->Prop}
theorem Na(h:vw w a is d n P):∃b off,(is=[]\/(a=some ⟨b,off,none⟩/\b<w.heap.size/\∀i,i<is.length->P w b (off+i*n) (is.getD i d))):=by
 rcases h with h|⟨b,off,h⟩
 ·exact⟨0,0,.inl h⟩
 exact⟨b,off,.inr h⟩
theorem IG(hP:∀b o x,P w b o x->b<w.heap.size->P w' b o x)(h:vw w a is d n P)(e:Bw w w'):vw w' a is d n P:=by
 rcases h with h|⟨b,off,h1,h2,f⟩
 ·exact .inl h
 exact .inr ⟨b,off,h1,U9 h2 e.size,λi c=>hP _ _ _ (f i c) h2⟩
theorem oQ{R:α->Prop}(hd:R d)(h:∀i,i<is.length->R (is.getD i d))(i:Nat):R (is.getD i d):=by
 rcases D8 i is.length with a|a
 ·exact h i a
 rw[show is.getD i d=d from by simp[List.getD,Zb a]];exact hd
theorem xJ{f:α->List Value}{k:Nat}(a:k<is.length):(is.take (k+1)).flatMap f=(is.take k).flatMap f++f (is.getD k d):=by
 rw[Yr,Qs,L9 a];simp[List.getD,L9 a]
theorem Gg{f:α->List Value}{m:Nat}(hf:∀x,(f x).length=m)(l:List α):(l.flatMap f).length=l.length*m:=by
 induction l with
 | nil=>simp
 | cons x l ih=>rw[Hg,P9,ih,hf,u_,Tj,Nat.add_comm]
theorem Fh{f:α->List Value}{m:Nat}(hf:∀x,(f x).length=m):∀(l:List α)(i:Nat),i<l.length->∀q v,(f (l.getD i d))[q]?=some v->(l.flatMap f)[i*m+q]?=some v
 | x::l,0,h,q,v,e=>by
  have a:q<(f x).length:=(Zi.1 e).1;rw[Hg,Wv,o9,G_ a];exact e
 | x::l,i+1,h,q,v,e=>by
  rw[Hg,Ue (by rw[hf,Tj];omega),hf,show(i+1)*m+q-m=i*m+q by rw[Tj];omega];exact Fh hf l i (by simpa using h) q v e
end
structure Jb where
 nm:BY
 wk:Int
 un:Int
def ve:Jb:=⟨⟨#[]⟩,0,0⟩
def yC(x:Jb):List Value:=[.string x.nm,.int .i64 x.wk,.int .i64 x.un]
def ak(w:World)(a:OA)(is:List Jb):Prop:=vw w a is ve 3 λw b o x=>Bc w b o (yC x)
theorem Jm{w w':World}{a:OA}{is:List Jb}(h:ak w a is)(c:Bw w w'):ak w' a is:=IG (λb o x h hl=>h.below hl c) h c
end Go.Proofs.YtkccjgajimjjdaaGreatDoor
namespace Go.Proofs.YtkccjgajimjjdaaGreatDoor
open Proofs.Tryz Go.RowKit
def Kp(b:Nat)(w:World)(P:World->Prop):Prop:=∀u:World,w.heap.size<=u.heap.size->(∀q,b<=q->q<w.heap.size->u.heap[q]?=w.heap[q]?)->P u
section
variable{b b' B:Nat}{w u:World}{P Q:World->Prop}{t:TypeId}{xs:List Value}
theorem Kp.now(h:Kp b w P):P w:=h w X7 (λ_ _ _=>rfl)
theorem Kp.next(h:Kp b w P)(c:w.heap.size<=u.heap.size)(d:∀q,b<=q->q<w.heap.size->u.heap[q]?=w.heap[q]?):Kp b u P:=λz h1 h2=>h z (I8 c h1) (λq a hl=>(h2 q a O0).trans (d q a hl))
theorem Kp.below(h:Kp b w P)(a:Bw w u):Kp b u P:=h.next a.size (λq _ hl=>a.block q hl)
theorem Kp.on(h:Kp b w P)(ho:Jr B w u)(hB:B<b):Kp b u P:=h.next (uh ho.size.symm) (λq hq _=>ho.block q O0)
theorem Kp.low(h:Kp b w P)(hb:b'<=b):Kp b' w P:=λz h1 h2=>h z h1 (λq hq=>h2 q O0)
theorem Kp.imp(h:Kp b w P)(a:∀u,P u->Q u):Kp b w Q:=λz h1 h2=>a _ (h z h1 h2)
theorem a2u(h:Cl w B t xs)(a:b<=B):Kp b w λu=>Cl u B t xs:=λz _ h2=>(h2 B a h.lt).trans h
end
def ax(A:Nat)(u:World)(a:OA)(t:TypeId)(m:Nat):Prop:=∃g xs,a=some ⟨g,0,none⟩/\A<=g/\Cl u g t xs/\m<=xs.length
theorem ax.mono{A A' m:Nat}{u:World}{a:OA}{t:TypeId}(h:ax A u a t m)(h1:A'<=A):ax A' u a t m:=by
 obtain⟨g,xs,h1,h2,b⟩:=h;exact⟨g,xs,h1,O0,b⟩
def Tt{β:Type}(b:Nat)(w:World)(LS:World->OA->List β->Prop)(t:TypeId)(m:Nat)(ls:List β)(v:Value):Prop:=∃a c,v=.slice a ls.length c/\ls.length<=c/\Kp b w (λu=>LS u a ls/\ax b u a t (ls.length*m))
section
variable{β:Type}{b b' B m:Nat}{t:TypeId}{w u:World}{LS:World->OA->List β->Prop}{ls:List β}{v:Value}
theorem Tt.below(h:Tt b w LS t m ls v)(d:Bw w u):Tt b u LS t m ls v:=by
 obtain⟨a,c,e,hc,h⟩:=h;exact⟨a,c,e,hc,h.below d⟩
theorem Tt.on(h:Tt b w LS t m ls v)(ho:Jr B w u)(hB:B<b):Tt b u LS t m ls v:=by
 obtain⟨a,c,e,hc,h⟩:=h;exact⟨a,c,e,hc,h.on ho hB⟩
theorem Tt.low(h:Tt b w LS t m ls v)(d:b'<=b):Tt b' w LS t m ls v:=by
 obtain⟨a,c,e,hc,h⟩:=h;exact⟨a,c,e,hc,(h.low d).imp λu k=>⟨k.1,k.2.mono d⟩⟩
theorem Tt.one(h:Tt b w LS t m ls v):v.oneCell'=true:=by
 obtain⟨a,c,rfl,_,h⟩:=h;rfl
end
structure Rn where
 nm:BY
 md:Int
 wt:BY
 ls:List L4
 cd:Int
 tx:BY
def A_:Rn:=⟨⟨#[]⟩,0,⟨#[]⟩,[],0,⟨#[]⟩⟩
def Ph(p:Rn×Value):List Value:=[.string p.1.nm,.int .i64 p.1.md,.string p.1.wt,p.2,.int .i64 p.1.cd,.string p.1.tx]
def rW(w:World)(b o:Nat)(x:Rn):Prop:=∃ai ci,Bc w b o (Ph (x,.slice ai x.ls.length ci))/\S9 w ai x.ls
def yj(w:World)(a:OA)(is:List Rn):Prop:=vw w a is A_ 6 rW
theorem rW.below{w w':World}{b o:Nat}{x:Rn}(h:rW w b o x)(hl:b<w.heap.size)(d:Bw w w'):rW w' b o x:=by
 obtain⟨a,c,h1,h2⟩:=h;exact⟨a,c,h1.below hl d,U7 h2 d⟩
theorem Ff{w w':World}{a:OA}{is:List Rn}(h:yj w a is)(c:Bw w w'):yj w' a is:=IG (λb o x h hl=>h.below hl c) h c
def uJ(p:R3×Value):List Value:=[.string p.1.key,p.2,.string p.1.out]
def wP(x:G3):List Value:=[.bool x.nm,.string x.tl,.string x.ar]
def ny(x:L4):List Value:=[.bool x.has,.string x.nm,.int .i64 x.cd,.string x.tx]
section
variable{α:Type}{w:World}{B n:Nat}{t:TypeId}{ps:List (α×Value)}{f:α×Value->List Value}{r:List Value}{d:α}
theorem pW(hf:∀x,(f x).length=n)(h:Cl w B t (ps.flatMap f++r)){i:Nat}(a:i<ps.length):∃v,((ps.map Prod.fst).getD i d,v)∈ps/\Bc w B (0+i*n) (f ((ps.map Prod.fst).getD i d,v)):=by
 refine⟨(ps[i]).2,?_,?_⟩
 ·rw[show(ps.map Prod.fst).getD i d=(ps[i]).1 from by simp[List.getD,a]];exact Zj a
 rw[show(ps.map Prod.fst).getD i d=(ps[i]).1 from by simp[List.getD,a]];refine aZ h λq v e=>?_;have hq:q<n:=by have:=(Zi.1 e).1;rwa[hf]at this
 have hl:=Gg (m:=n) hf ps;have:i*n+n<=ps.length*n:=by rw[<- Tj];exact Io _ a
 rw[o9,G_ O0];exact Fh (d:=(d,undef)) hf ps i a q v (by rw[show ps.getD i (d,undef)=ps[i] from by simp[List.getD,a]];exact e)
end
end Go.Proofs.YtkccjgajimjjdaaGreatDoor
namespace Go.Proofs.YtkccjgajimjjdaaGreatDoor
open Proofs.Tryz Go.RowKit
variable{w:World}{a:OA}{is:List T.F2}
theorem c57(x:Jb)(l:Int)(w:World)(h0:0<=l)(h1:l<=1048576)(hs:x.nm.size<=9223372036854775807):
 Calls prog 57 #[.agg #[.string x.nm,.int .i64 x.wk,.int .i64 x.un],.int .i64 l] w λe w'=>(∃r:Int,e=.returned (.int .i64 r)/\(0<=r->x.nm.size<=1048576/\r<=l))/\Bw w w':=by
 by_cases h':l<x.nm.size
 ·go_in
  go_wp2;go_ret;exact⟨⟨-1,rfl,λh=>O0⟩,Y6⟩
 go_in
 go_wp2;go_ret;exact⟨⟨_,rfl,λh=>⟨O0,O0⟩⟩,Y6⟩
theorem c17(a:OA)(cap:Nat)(is:List Jb)(l:Int)(w:World)(h0:0<=l)(h1:l<=1048576)(p:∀i,(is.getD i ve).nm.size<= 9223372036854775807)(hl:is.length<=9223372036854775807)(q:ak w a is):
 Calls prog 17 #[.slice a is.length cap,.int .i64 l] w λe w'=>(∃r:Int,e=.returned (.int .i64 r)/\(0<=r->is.length<=1048576/\(∀i,(is.getD i ve).nm.size<= 1048576)/\r<=1048576))/\Bw w w':=by
 obtain⟨b,off,hc⟩:=Na q;have D:=U0 hc;have C:=U0 p;clear hc q p;by_cases hbig:l<is.length
 ·go_in
  go_wp2;go_ret;exact⟨⟨-1,rfl,λh=>O0⟩,G5 _ _⟩
 go_in
 go_wp2;go_loopw[1,5] (λu i wr=>∃(k:Nat)(r:Int),k<=is.length/\i=.int .i64 k/\u=.int .i64 r/\0<=r/\r<=1048576/\Hid (∀i,i<k->(is.getD i ve).nm.size<= 1048576)/\Below w.heap.size w wr) (λ_ i _=>is.length-(RowKit.intOf i).toNat);exact⟨0,_,J4 _,rfl,rfl,O0,O0,λi h=>absurd h (y9 _),G5 _ _⟩;obtain⟨k,r,hk,rfl,rfl,z,y,o,c⟩:=hrel;by_cases f:k<is.length;rotate_left
 ·have j:Hid (∀i,(is.getD i ve).nm.size<= 1048576):=U0 (oQ (is:=is) (d:=ve) (R:=λx=>x.nm.size<= 1048576) Z5 (λi h=>o.out i O0));go_wp2;go_ret;exact⟨⟨r,rfl,λ_=>⟨O0,j.out,y⟩⟩,c⟩
 obtain⟨ha,n,g⟩:=Jd D.out f;subst ha;have g0:=((g k f).below n c) 0 _ rfl;have g1:=((g k f).below n c) 1 _ rfl;have g2:=((g k f).below n c) 2 _ rfl;dsimp only[Nat.add_zero]at g0;have v:=C.out k;generalize hx:is.getD k ve=x at*;have B:=U0 hx;clear hx g
 go_wp2_with fail
 refine(c57 x r wr z O0 v).mono ?_;rintro e w1⟨⟨t,rfl,hr⟩,A⟩;have s:=J5 c A;by_cases hneg:t<0
 ·clear hr;go_wp2;go_ret;exact⟨⟨-1,rfl,λh=>O0⟩,s⟩
 have m:=hr O0;have j:Hid (∀i,i<k+1->(is.getD i ve).nm.size<= 1048576):=by
  intro i h;rcases D8 i k with h1|h1
  ·exact o.out i h1
  obtain rfl:i=k:=O0;rw[B.out];exact m.1
 have hr2:=m.2;clear hr m;go_wp2;go_roundw;exact⟨k+1,_,O0,by go_num,rfl,O0,O0,j,s⟩;exact Z9
theorem c105(x:Jb)(w:World):
 Calls prog 105 #[.agg #[.string x.nm,.int .i64 x.wk,.int .i64 x.un],.agg #[.string x.nm,.int .i64 x.wk,.int .i64 x.un]] w λe w'=>e=.returned (.bool true)/\Bw w w':=by
 go_in
 go_wp2;go_ret;exact⟨rfl,Y6.alloc E5 _⟩
theorem c39(a o:OA)(cap s:Nat)(is:List Jb)(w:World)(hl:is.length<=1048576)(n:ak w a is)(m:ak w o is):
 Calls prog 39 #[.slice a is.length cap,.slice o is.length s] w λe w'=>e=.returned (.bool true)/\Bw w w':=by
 obtain⟨b,off,hc⟩:=Na n;have u:=U0 hc;obtain⟨b',off',l⟩:=Na m;have t:=U0 l;clear hc n l m
 go_in
 go_wp2;go_loopw[5] (λi wr=>∃(k:Nat),k<=is.length/\i=.int .i64 k/\Below w.heap.size w wr) (λi _=>is.length-(RowKit.intOf i).toNat);exact⟨0,J4 _,rfl,G5 _ _⟩;obtain⟨k,hk,rfl,c⟩:=hrel;by_cases d:k<is.length;rotate_left
 ·go_wp2;go_ret;exact⟨rfl,c⟩
 obtain⟨ha,j,g⟩:=Jd u.out d;obtain⟨r,h,f⟩:=Jd t.out d;subst ha;subst r;have g0:=((g k d).below j c) 0 _ rfl;have g1:=((g k d).below j c) 1 _ rfl;have g2:=((g k d).below j c) 2 _ rfl;dsimp only[Nat.add_zero]at g0;have p:=((f k d).below h c) 0 _ rfl;have p1:=((f k d).below h c) 1 _ rfl;have p2:=((f k d).below h c) 2 _ rfl;dsimp only[Nat.add_zero]at p;generalize is.getD k ve=x at*;clear g f
 go_wp2_with fail
 go_region_with(go_at_call 105;refine(c105 x _).mono ?_;rintro e w1⟨rfl,q⟩)
 all_goals go_wp2
 all_goals go_roundw
 all_goals first
  | exact⟨k+1,O0,by go_num,(c.drew).trans (q.mono c.size)⟩
  | (exact Z9)
def fiE(x:T.F2):List Value:=[.string x.nm,.string x.tx]
def dN(w:World)(a:OA)(is:List T.F2):Prop:=vw w a is T.G9 2 λw b o x=>Bc w b o (fiE x)
theorem jZ(h:T.G6 w a is):dN w a is:=by
 rcases h with h|⟨b,off,h1,h2,d⟩
 ·exact .inl h
 refine .inr ⟨b,off,h1,h2,λi c q v e=>?_⟩
 match q,e with
 | 0,e=>cases e;exact(d i c).1
 | 1,e=>cases e;exact(d i c).2
theorem a2r(h:dN w a is):T.G6 w a is:=by
 rcases h with h|⟨b,off,h1,h2,d⟩
 ·exact .inl h
 exact .inr ⟨b,off,h1,h2,λi c=>⟨d i c 0 _ rfl,d i c 1 _ rfl⟩⟩
theorem a4S(x:T.F2)(l:Int)(w:World)(h0:0<=l)(h1:l<=1048576)(a:x.le 9223372036854775807):
 Calls prog 113 #[.agg #[.string x.nm,.string x.tx],.int .i64 l] w λe w'=>(∃r:Int,e=.returned (.int .i64 r)/\(0<=r->x.le 1048576/\r<=l))/\Bw w w':=by
 obtain⟨s1,s2⟩:=a;by_cases h':l<x.nm.size
 ·go_in
  go_wp2;go_ret;exact⟨⟨-1,rfl,λh=>O0⟩,Y6⟩
 by_cases h2:l-x.nm.size<x.tx.size
 ·go_in
  go_wp2;go_ret;exact⟨⟨-1,rfl,λh=>O0⟩,Y6⟩
 go_in
 go_wp2;go_ret;exact⟨⟨_,rfl,λh=>⟨⟨O0,O0⟩,O0⟩⟩,Y6⟩
theorem c54(a:OA)(cap:Nat)(is:List T.F2)(l:Int)(w:World)(h0:0<=l)(h1:l<=1048576)(o:∀i,(is.getD i T.G9).le 9223372036854775807)(hl:is.length<=9223372036854775807)(q:dN w a is):
 Calls prog 54 #[.slice a is.length cap,.int .i64 l] w λe w'=>(∃r:Int,e=.returned (.int .i64 r)/\(0<=r->is.length<=1048576/\(∀i,(is.getD i T.G9).le 1048576)/\r<=1048576))/\Bw w w':=by
 obtain⟨b,off,hc⟩:=Na q;have D:=U0 hc;have C:=U0 o;clear hc q o;by_cases hbig:l<is.length
 ·go_in
  go_wp2;go_ret;exact⟨⟨-1,rfl,λh=>O0⟩,G5 _ _⟩
 go_in
 go_wp2;go_loopw[1,5] (λu i wr=>∃(k:Nat)(r:Int),k<=is.length/\i=.int .i64 k/\u=.int .i64 r/\0<=r/\r<=1048576/\Hid (∀i,i<k->(is.getD i T.G9).le 1048576)/\Below w.heap.size w wr) (λ_ i _=>is.length-(RowKit.intOf i).toNat);exact⟨0,_,J4 _,rfl,rfl,O0,O0,λi h=>absurd h (y9 _),G5 _ _⟩;obtain⟨k,r,hk,rfl,rfl,z,y,n,c⟩:=hrel;by_cases j:k<is.length;rotate_left
 ·have f:Hid (∀i,(is.getD i T.G9).le 1048576):=U0 (oQ (is:=is) (d:=T.G9) (R:=λx=>x.le 1048576) ⟨Z5,Z5⟩ (λi h=>n.out i O0));go_wp2;go_ret;exact⟨⟨r,rfl,λ_=>⟨O0,f.out,y⟩⟩,c⟩
 obtain⟨ha,p,m⟩:=Jd D.out j;subst ha;have g0:=((m k j).below p c) 0 _ rfl;have g1:=((m k j).below p c) 1 _ rfl;dsimp only[Nat.add_zero]at g0;have v:=C.out k;generalize hx:is.getD k T.G9=x at*;have B:=U0 hx;clear hx m
 go_wp2_with fail
 refine(a4S x r wr z O0 v).mono ?_;rintro e w1⟨⟨t,rfl,hr⟩,A⟩;have s:=J5 c A;by_cases hneg:t<0
 ·clear hr;go_wp2;go_ret;exact⟨⟨-1,rfl,λh=>O0⟩,s⟩
 have g:=hr O0;have f:Hid (∀i,i<k+1->(is.getD i T.G9).le 1048576):=by
  intro i h;rcases D8 i k with h1|h1
  ·exact n.out i h1
  obtain rfl:i=k:=O0;rw[B.out];exact g.1
 have hr2:=g.2;clear hr g;go_wp2;go_roundw;exact⟨k+1,_,O0,by go_num,rfl,O0,O0,f,s⟩;exact Z9
theorem c12(a:OA)(cap:Nat)(is:List T.F2)(l:Int)(w:World)(h0:0<=l)(h1:l<=1048576)(b:∀i,(is.getD i T.G9).le 9223372036854775807)(hl:is.length<=9223372036854775807)(d:T.G6 w a is):
 Calls prog 12 #[.agg #[.slice a is.length cap],.int .i64 l] w λe w'=>(∃r:Int,e=.returned (.int .i64 r)/\(0<=r->is.length<=1048576/\(∀i,(is.getD i T.G9).le 1048576)/\r<=1048576))/\Bw w w':=by
 have hc:=c54 a cap is l _ h0 h1 b hl (jZ (T.U5 d (Y6 (o:=.cells #[vL a is.length cap] 27))));clear b d
 go_in
 go_wp2_with fail
 refine hc.mono ?_;rintro e w1⟨⟨r,rfl,hr⟩,c⟩;have g:=U0 hr;have f:=U0 (J5 Y6 c);clear hc hr c;by_cases hn:r<0
 ·go_wp2;go_ret;exact⟨⟨-1,rfl,λh=>O0⟩,f.out⟩
 go_wp2;go_ret;exact⟨⟨_,rfl,g.out⟩,f.out⟩
